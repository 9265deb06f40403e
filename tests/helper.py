"""What the tests share: calls written out, the program asked, and a slow model of the document."""

from functools import lru_cache

from lockjobs.jobs import answers

LEAST = -2147483648
GREATEST = 2147483647
TIMES = 2000
WAYS = (0, 1, 2)
BEGIN = [0]


def job(priority, comes, needs):
    return [1, priority, comes, len(needs), len(needs)] + list(needs)


def job_without_units(priority, comes, n):
    """A job call with an n that is out of range: such a one has no needs."""
    return [1, priority, comes, n, 0]


def ceiling(lock):
    return [2, lock]


def runs(way, t):
    return [3, way, t]


def at(way, t, number):
    return [4, way, t, number]


def ends(way, number):
    return [5, way, number]


def turns(way, number):
    return [6, way, number]


def most(number):
    return [7, number]


def left(way):
    return [8, way]


def line(calls):
    return [number for call in calls for number in call]


def ask(calls):
    """What the program answers to each of these calls, behind a begin."""
    given = answers(line([BEGIN] + calls))
    if len(given) != 2 * len(calls) + 2 or set(given[::2]) != {1} or given[1] != 0:
        raise AssertionError(f"not one number for each call: {given}")
    return given[3::2]


def ask_after(told, asked):
    """What is answered to the calls that are asked once others were told."""
    return ask(told + asked)[len(told):]


# The model: the document's words over sets of locks, with nothing kept but how many units are done.

def locks(byte):
    return {r for r in range(8) if byte & (1 << r)}


def model_ceiling(jobs, lock):
    return max([p for p, comes, needs in jobs if any(lock in locks(byte) for byte in needs)] + [0])


def model_holds(jobs, done, i):
    needs = jobs[i][2]
    return locks(needs[done[i] - 1]) & locks(needs[done[i]]) if 0 < done[i] < len(needs) else set()


def model_wants(jobs, done, i):
    needs = jobs[i][2]
    return locks(needs[done[i]]) - model_holds(jobs, done, i) if done[i] < len(needs) else set()


def model_keeps(jobs, done, way, i, j):
    if i == j:
        return False
    held, wanted = model_holds(jobs, done, i), model_wants(jobs, done, j)
    if way < 2:
        return bool(held & wanted)
    return bool(wanted) and any(model_ceiling(jobs, lock) >= jobs[j][0] for lock in held)


def model_level(jobs, ready, keeps, way, i):
    """The greatest priority among a job and all that wait for it, over however many steps."""
    reached, fresh = {i}, [i]
    while fresh and way > 0:
        one = fresh.pop()
        for j in ready:
            if (one, j) in keeps and j not in reached:
                reached.add(j)
                fresh.append(j)
    return max(jobs[j][0] for j in reached)


@lru_cache(maxsize=64)
def model_history(jobs, way):
    """For each time who runs, and what each job runs at."""
    history, done = [], [0] * len(jobs)
    for t in range(TIMES):
        ready = [i for i, (p, comes, needs) in enumerate(jobs) if comes <= t and done[i] < len(needs)]
        keeps = {(i, j) for i in ready for j in ready if model_keeps(jobs, done, way, i, j)}
        level = {i: model_level(jobs, ready, keeps, way, i) for i in ready}
        free = [i for i in ready if not any((k, i) in keeps for k in ready)]
        runner = sorted(free, key=lambda i: (level[i], jobs[i][0]))[-1] if free else (-5 if ready else -4)
        history.append((runner, [level.get(i, -4) for i in range(len(jobs))]))
        if runner >= 0:
            done[runner] += 1
    return history


def model_tell(jobs, priority, comes, n, needs):
    if not (1 <= priority <= 1000 and 0 <= comes <= 1000 and 1 <= n <= 32):
        return -1
    if len(jobs) == 8:
        return -2
    if priority in [p for p, c, u in jobs]:
        return -3
    jobs.append((priority, comes, tuple(needs)))
    return len(jobs)


def model_look(jobs, way, t, number=None):
    if way not in WAYS or t not in range(TIMES):
        return -1
    if number is None:
        return model_history(tuple(jobs), way)[t][0]
    if number not in range(len(jobs)):
        return -1
    return model_history(tuple(jobs), way)[t][1][number]


def model_ends(jobs, way, i):
    todo = len(jobs[i][2])
    for t, (runner, levels) in enumerate(model_history(jobs, way)):
        todo -= runner == i
        if todo == 0:
            return t + 1
    return -2


def model_turns(jobs, way, i):
    priority, comes, needs = jobs[i]
    count, done = 0, 0
    for t, (runner, levels) in enumerate(model_history(jobs, way)):
        if t >= comes and done < len(needs) and runner >= 0 and jobs[runner][0] < priority:
            count += 1
        done += runner == i
    return count


@lru_cache(maxsize=64)
def model_most(jobs, i):
    """Each row of units of each lesser job is tried, from each first to each last."""
    high = {lock for lock in range(8) if model_ceiling(jobs, lock) >= jobs[i][0]}
    found = [0]
    for priority, comes, needs in jobs:
        begun_high = [k > 0 and bool(locks(needs[k - 1]) & locks(needs[k]) & high) for k in range(len(needs))]
        for first in range(len(needs)):
            for last in range(first, len(needs)):
                if priority < jobs[i][0] and all(begun_high[first + 1:last + 1]):
                    found.append(last - first + 1 - 1)
    return max(found)


def model_whole(jobs, call):
    """The calls that are about all times at once: ends, turns, most, left."""
    jobs = tuple(jobs)
    if call[0] != 7 and call[1] not in WAYS or call[0] != 8 and call[-1] not in range(len(jobs)):
        return -1
    if call[0] == 5:
        return model_ends(jobs, call[1], call[2])
    if call[0] == 6:
        return model_turns(jobs, call[1], call[2])
    if call[0] == 7:
        return model_most(jobs, call[1])
    return sum(model_ends(jobs, call[1], i) < 0 for i in range(len(jobs)))


def model(calls):
    """What the document asks as answers to these calls, behind a begin."""
    jobs, told = [], []
    for call in calls:
        if call[0] == 0:
            jobs = []
            told.append(0)
        elif call[0] == 1:
            told.append(model_tell(jobs, call[1], call[2], call[3], call[5:]))
        elif call[0] == 2:
            told.append(model_ceiling(jobs, call[1]) if call[1] in range(8) else -1)
        elif call[0] < 5:
            told.append(model_look(jobs, *call[1:]))
        else:
            told.append(model_whole(jobs, call))
    return told
