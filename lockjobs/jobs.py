"""Jobs that hold locks, and a line of calls about them."""

LOCKS = 8
MOST_JOBS = 8
MOST_UNITS = 32
GREATEST_PRIORITY = 1000
LATEST_COMING = 1000
TIMES = 2000

PLAIN_WAY = 0
CEILING_WAY = 2

OUT_OF_RANGE = -1
TOO_MANY_JOBS = -2
NOT_DONE = -2
SAME_PRIORITY = -3
NOT_READY = -4
NOBODY_RUNS = -5

BEGIN = 0
JOB = 1
CEILING = 2
RUNS = 3
AT = 4
ENDS = 5
TURNS = 6
MOST = 7

# How many numbers each call has, from call 0 to call 8; a job's needs come on top.
CALL_LENGTHS = (1, 5, 2, 3, 4, 3, 3, 2, 2)


class Job:
    """A job as it was told; needs has the locks of each unit, as a byte's bits."""

    def __init__(self, priority, comes, needs):
        self.priority = priority
        self.comes = comes
        self.needs = needs


class Standing:
    """How a job stands at one time, with so many of its units done."""

    def __init__(self, job, done, t, ceilings):
        self.priority = job.priority
        self.ready = job.comes <= t and done < len(job.needs)
        self.held = locks_held(job.needs, done)
        self.wanted = locks_wanted(job.needs, done)
        self.held_ceiling = greatest_ceiling(self.held, ceilings)


class Moment:
    """One unit of time: which job runs (or why none does), and what each job runs at."""

    def __init__(self, runner, levels):
        self.runner = runner
        self.levels = levels


def locks_held(needs, done):
    """The locks that a job holds before its next unit."""
    if done == 0 or done == len(needs):
        return 0
    return needs[done - 1] & needs[done]


def locks_wanted(needs, done):
    """The locks that a job's next unit needs and that it does not hold."""
    if done == len(needs):
        return 0
    return needs[done] & ~locks_held(needs, done)


def has_lock(locks, lock):
    return (locks >> lock) & 1 == 1


def needs_lock(job, lock):
    return any([has_lock(unit, lock) for unit in job.needs])


def lock_ceiling(jobs, lock):
    """The greatest priority of the jobs that need this lock for any unit; 0, if none does."""
    return max([job.priority for job in jobs if needs_lock(job, lock)], default=0)


def ceilings_of(jobs):
    return [lock_ceiling(jobs, lock) for lock in range(LOCKS)]


def greatest_ceiling(locks, ceilings):
    """The greatest ceiling of these locks; 0, which is below every priority, if there are none."""
    return max([ceilings[lock] for lock in range(LOCKS) if has_lock(locks, lock)], default=0)


def keeps_waiting(way, keeper, waiter):
    """Whether the one keeps the other waiting, two different jobs."""
    if way == CEILING_WAY:
        return waiter.wanted != 0 and keeper.held_ceiling >= waiter.priority
    return (keeper.held & waiter.wanted) != 0


def keepers_of(way, standings, j):
    """The numbers of the jobs that keep job j waiting."""
    waiter = standings[j]
    return [i for i, keeper in enumerate(standings) if i != j and keeps_waiting(way, keeper, waiter)]


def levels_of(way, standings, keepers):
    """What each job runs at."""
    levels = [standing.priority for standing in standings]
    # What is lent may be lent on, round a ring of jobs too: so this goes on until nothing is lent any more.
    lending = way != PLAIN_WAY
    while lending:
        lending = False
        for j, standing in enumerate(standings):
            for i in keepers[j]:
                if standing.ready and levels[i] < levels[j]:
                    levels[i] = levels[j]
                    lending = True
    return levels


def runner_of(standings, keepers, levels):
    """Which job runs; or that nobody is ready, or that nobody runs."""
    ready = [j for j, standing in enumerate(standings) if standing.ready]
    if len(ready) == 0:
        return NOT_READY
    free = [j for j in ready if len(keepers[j]) == 0]
    if len(free) == 0:
        return NOBODY_RUNS
    return max(free, key=lambda j: (levels[j], standings[j].priority))


def moment_of(way, standings):
    keepers = [keepers_of(way, standings, j) for j in range(len(standings))]
    levels = levels_of(way, standings, keepers)
    runner = runner_of(standings, keepers, levels)
    shown = [levels[j] if standing.ready else NOT_READY for j, standing in enumerate(standings)]
    return Moment(runner, shown)


def timetable_of(way, jobs):
    """The moments of all times from 0 on, if all goes in this way."""
    ceilings = ceilings_of(jobs)
    comings = [job.comes for job in jobs]
    done = [0 for job in jobs]
    moments = []
    for t in range(TIMES):
        # Where nobody ran and nobody comes all is as it was, and working it out again would be slow.
        if t > 0 and moments[t - 1].runner < 0 and t not in comings:
            moments.append(moments[t - 1])
        else:
            standings = [Standing(job, done[j], t, ceilings) for j, job in enumerate(jobs)]
            moments.append(moment_of(way, standings))
        if moments[t].runner >= 0:
            done[moments[t].runner] += 1
    return moments


def end_of(job, number, moments):
    """When a job is done; or that it is not by the last of these moments."""
    times = [t for t, moment in enumerate(moments) if moment.runner == number]
    if len(times) < len(job.needs):
        return NOT_DONE
    return times[-1] + 1


def lesser_runs(jobs, moment, number):
    """Whether this job is ready, and one with a lesser priority of its own runs."""
    if moment.levels[number] == NOT_READY or moment.runner < 0:
        return False
    return jobs[moment.runner].priority < jobs[number].priority


def longest_hold(needs, ceilings, priority):
    """The most units one behind another, each begun with a lock held whose ceiling isn't below this priority."""
    longest = 0
    length = 0
    for done in range(1, len(needs)):
        if greatest_ceiling(locks_held(needs, done), ceilings) >= priority:
            length += 1
        else:
            length = 0
        longest = max(longest, length)
    return longest


def is_way(way):
    return PLAIN_WAY <= way <= CEILING_WAY


def is_time(t):
    return 0 <= t < TIMES


class Row:
    """The jobs that are told, and the timetables that were asked for since the last of them was told."""

    def __init__(self):
        self.jobs = []
        self.timetables = {}

    def begin(self):
        self.jobs = []
        self.timetables = {}
        return 0

    def job(self, priority, comes, n, needs):
        if not (1 <= priority <= GREATEST_PRIORITY and 0 <= comes <= LATEST_COMING and 1 <= n <= MOST_UNITS):
            return OUT_OF_RANGE
        if len(self.jobs) == MOST_JOBS:
            return TOO_MANY_JOBS
        if priority in [job.priority for job in self.jobs]:
            return SAME_PRIORITY
        self.jobs.append(Job(priority, comes, needs))
        self.timetables = {}
        return len(self.jobs)

    def ceiling(self, lock):
        if not 0 <= lock < LOCKS:
            return OUT_OF_RANGE
        return lock_ceiling(self.jobs, lock)

    def runs(self, way, t):
        if not (is_way(way) and is_time(t)):
            return OUT_OF_RANGE
        return self.timetable(way)[t].runner

    def at(self, way, t, number):
        if not (is_way(way) and is_time(t) and self.has_job(number)):
            return OUT_OF_RANGE
        return self.timetable(way)[t].levels[number]

    def ends(self, way, number):
        if not (is_way(way) and self.has_job(number)):
            return OUT_OF_RANGE
        return end_of(self.jobs[number], number, self.timetable(way))

    def turns(self, way, number):
        if not (is_way(way) and self.has_job(number)):
            return OUT_OF_RANGE
        return len([moment for moment in self.timetable(way) if lesser_runs(self.jobs, moment, number)])

    def most(self, number):
        if not self.has_job(number):
            return OUT_OF_RANGE
        priority = self.jobs[number].priority
        ceilings = ceilings_of(self.jobs)
        lesser = [job for job in self.jobs if job.priority < priority]
        # A row has one unit more, its first, however that is begun; the promise takes one off again.
        return max([longest_hold(job.needs, ceilings, priority) for job in lesser], default=0)

    def left(self, way):
        if not is_way(way):
            return OUT_OF_RANGE
        endings = [end_of(job, number, self.timetable(way)) for number, job in enumerate(self.jobs)]
        return endings.count(NOT_DONE)

    def has_job(self, number):
        return 0 <= number < len(self.jobs)

    def timetable(self, way):
        if way not in self.timetables:
            self.timetables[way] = timetable_of(way, self.jobs)
        return self.timetables[way]


def call_length(calls, place):
    """How many numbers the call at this place has."""
    number = calls[place]
    if number == JOB:
        return CALL_LENGTHS[JOB] + calls[place + 4]
    return CALL_LENGTHS[number]


def answer(row, call):
    """What one call answers."""
    number = call[0]
    if number == BEGIN:
        return row.begin()
    if number == JOB:
        return row.job(call[1], call[2], call[3], call[5:])
    if number == CEILING:
        return row.ceiling(call[1])
    if number == RUNS:
        return row.runs(call[1], call[2])
    if number == AT:
        return row.at(call[1], call[2], call[3])
    if number == ENDS:
        return row.ends(call[1], call[2])
    if number == TURNS:
        return row.turns(call[1], call[2])
    if number == MOST:
        return row.most(call[1])
    return row.left(call[1])


def answers(calls):
    """What a line of calls answers: for each call 1, for it answers one number, and that number."""
    row = Row()
    told = []
    place = 0
    while place < len(calls):
        length = call_length(calls, place)
        told.append(1)
        told.append(answer(row, calls[place:place + length]))
        place += length
    return told
