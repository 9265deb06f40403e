"""Many lines, the same at each run, against the slow model of the document in helper.py."""

import random
import unittest

from helper import (BEGIN, GREATEST, LEAST, WAYS, ask, ask_after, at, ceiling, ends, job, job_without_units, left,
                    model, most, runs, turns)


def needs_of(chance, few, stop=9):
    """Units that take locks one by one and keep them for a while, as jobs with locks do."""
    units, now = [], 0
    for k in range(chance.randrange(1, stop)):
        if chance.random() < 0.2:
            now &= chance.choice([0, chance.randrange(256)])
        if chance.random() < 0.6:
            now |= 1 << chance.randrange(few)
        units.append(now)
    return units


def some_jobs(chance):
    """Jobs of which the later ones are the greater, so that they find locks held."""
    few = chance.choice([1, 2, 3, 4, 8])
    late = chance.choice([1, 6, 12, 40])
    count = chance.randrange(1, 9)
    comings = sorted(chance.randrange(late) for k in range(count))
    priorities = sorted(chance.sample(range(1, 1001), count))
    told = [job(p, comes, needs_of(chance, few)) for p, comes in zip(priorities, comings)]
    chance.shuffle(told)
    return told


def rows():
    chance = random.Random(1)
    return [some_jobs(chance) for k in range(60)]


def all_looks(count, until):
    looks = [runs(way, t) for way in WAYS for t in range(until)]
    return looks + [at(way, t, i) for way in WAYS for t in range(until) for i in range(count)]


def whole_looks(count):
    """All that can be asked of so many jobs without a time."""
    looks = [call for way in WAYS for i in range(count) for call in (ends(way, i), turns(way, i))]
    return looks + [most(i) for i in range(count)] + [left(way) for way in WAYS]


def some_number(chance, usual):
    return chance.choice(usual) if chance.random() < 0.9 else chance.choice([LEAST, -1, 3, 8, 1000, 1001, 2000, GREATEST])


def some_call(chance):
    kind = chance.randrange(16)
    if kind == 0:
        return BEGIN if chance.random() < 0.2 else job_without_units(some_number(chance, [5]), 0, chance.choice([0, 33]))
    if kind < 4:
        return job(some_number(chance, range(1, 20)), some_number(chance, range(10)), needs_of(chance, 4))
    if kind == 4:
        return ceiling(some_number(chance, range(8)))
    way, t, number = some_number(chance, WAYS), some_number(chance, range(40)), some_number(chance, range(8))
    if kind < 7:
        return runs(way, t)
    if kind < 10:
        return at(way, t, number)
    return chance.choice([ends(way, number), turns(way, number), most(number), left(way)])


class AgainstTheModel(unittest.TestCase):
    def check(self, calls):
        for call, given, due in zip(calls, ask(calls), model(calls)):
            self.assertEqual(given, due, (call, calls))

    def test_rows_of_jobs_at_many_times(self):
        chance = random.Random(3)
        for told in rows():
            looks = all_looks(len(told), 110)
            chance.shuffle(looks)
            self.check(told + looks[:399 - len(told)])

    def test_rows_of_jobs_as_a_whole(self):
        for told in rows():
            self.check(told + whole_looks(len(told)))

    def test_rows_of_long_jobs_as_a_whole(self):
        chance = random.Random(4)
        for k in range(10):
            few = chance.choice([2, 4, 8])
            told = [job(p, chance.randrange(300), needs_of(chance, few, 33)) for p in chance.sample(range(1, 1001), 8)]
            self.check(told + whole_looks(8))

    def test_lines_of_all_calls(self):
        chance = random.Random(2)
        for k in range(60):
            self.check([some_call(chance) for n in range(60)])

    def test_the_rows_idle_and_get_stuck_often_enough_to_tell(self):
        seen = {(way, refusal): 0 for way in WAYS for refusal in (-4, -5)}
        for told in rows():
            for way in WAYS:
                given = ask(told + [runs(way, t) for t in range(110)])[len(told):]
                for refusal in (-4, -5):
                    seen[way, refusal] += refusal in given
        self.assertGreater(min(seen[0, -5], seen[1, -5]), 5)
        self.assertGreater(min(seen[way, -4] for way in WAYS), 20)
        # With ceilings nobody is ever stuck: that is what they are for.
        self.assertEqual(seen[2, -5], 0)

    def test_the_rows_have_turns_and_holds_often_enough_to_tell(self):
        seen = {"some left": 0, "all done": 0, "most": set()}
        differing = {way: 0 for way in WAYS}
        for told in rows():
            count = range(len(told))
            waits = [ask_after(told, [turns(way, i) for i in count]) for way in WAYS]
            for way in WAYS:
                differing[way] += any(waits[way]) and waits[way] not in waits[:way]
            seen["most"].update(ask_after(told, [most(i) for i in count]))
            stay = ask_after(told, [left(0)])[0]
            seen["some left"] += 0 < stay < len(told)
            seen["all done"] += stay == 0
        self.assertGreater(min(differing.values()), 10)
        self.assertGreater(min(seen["some left"], seen["all done"]), 5)
        self.assertGreaterEqual(seen["most"], set(range(7)))


if __name__ == "__main__":
    unittest.main()
