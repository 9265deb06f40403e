"""The interface: how calls stand in the list, what is given back, and that nothing else is done."""

import contextlib
import io
import time
import unittest

from helper import (BEGIN, ask, at, ceiling, ends, job, job_without_units, left, line, model, most, runs, turns)
from lockjobs.jobs import answers

# Way 1: 0 0 0 1 2 2.
SOME = [job(10, 0, [1, 1, 1]), job(30, 1, [1]), job(20, 1, [0, 0]), ceiling(0), ceiling(9), runs(1, 1), at(1, 1, 0),
        ends(1, 2), turns(1, 2), most(1), left(1), ends(3, 0), turns(1, 3), most(-1), left(-1)]
SOME_ANSWERS = [1, 2, 3, 30, -1, 0, 30, 6, 2, 2, 0, -1, -1, -1, -1]

# A line takes some tenths of a second up to some seconds; one that took this long would have gone wrong.
GOOD_TIME = 30


def eight_long_jobs():
    return [job(1000 - 7 * i, 13 * i, [1 + (37 * i + 11 * k) % 255 for k in range(32)]) for i in range(8)]


def eight_jobs_in_a_queue():
    """The first one holds what all the others want, and they come while it does."""
    return [job(100 + i, i, [255] * 31 + [0]) for i in range(8)]


def longest_line():
    """400 calls with the begin: eight jobs of 32 units, the rest looks at all times."""
    looks = []
    for k in range(391 - 8):
        way, number = k // 6 % 3, k // 6 % 8
        kinds = (at(way, 5 * k, number), runs(way, 5 * k), ends(way, number), turns(way, number), most(number), left(way))
        looks.append(kinds[k % 6])
    return eight_long_jobs() + looks + [ceiling(lock) for lock in range(8)]


def line_of_many_timetables(jobs):
    """All ways are asked for as soon as six, seven and eight jobs are told, and then it begins again."""
    row = []
    for count, one in enumerate(jobs, start=1):
        row.append(one)
        if count > 5:
            row += [ends(0, 0), turns(1, 0), left(2)]
    return ((row + [BEGIN]) * 30)[:399]


class Form(unittest.TestCase):
    def test_the_shortest_line(self):
        self.assertEqual(answers([0]), [1, 0])

    def test_each_answer_has_its_count_before_it(self):
        given = answers(line([BEGIN] + SOME))
        self.assertEqual(given, [number for one in [0] + SOME_ANSWERS for number in (1, one)])

    def test_a_refused_job_is_passed_over_whole(self):
        calls = [0, 1, 0, 0, 3, 3, 0, 0, 0, 2, 0, 1, 5, 0, 33, 0, 2, 0, 1, 5, 0, 2, 2, 1, 1, 2, 0]
        self.assertEqual(answers(calls), [1, 0, 1, -1, 1, 0, 1, -1, 1, 0, 1, 1, 1, 5])

    def test_it_gives_back_a_list_of_whole_numbers(self):
        given = answers(line([BEGIN] + SOME))
        self.assertIs(type(given), list)
        self.assertEqual({type(number) for number in given}, {int})


class LongestLines(unittest.TestCase):
    def check(self, calls):
        self.assertEqual(len([BEGIN] + calls), 400)
        start = time.perf_counter()
        given = ask(calls)
        self.assertLess(time.perf_counter() - start, GOOD_TIME)
        self.assertEqual(given, model(calls))

    def test_looks_of_all_kinds(self):
        self.check(longest_line())

    def test_looks_of_one_kind(self):
        for jobs in (eight_long_jobs(), eight_jobs_in_a_queue()):
            for look in (runs(1, 1999), at(1, 1999, 7), ends(2, 0), turns(1, 7), most(0), most(7), left(2)):
                self.check(jobs + [look] * 391)

    def test_begins_and_refusals(self):
        self.check([BEGIN] * 399)
        self.check([job_without_units(1, 0, 0)] * 399)
        self.check([ends(0, 0), turns(0, 0), most(0)] * 133)

    def test_as_many_timetables_as_can_be(self):
        for jobs in (eight_long_jobs(), eight_jobs_in_a_queue(), eight_jobs_in_a_queue()[::-1]):
            self.check(line_of_many_timetables(jobs))

    def test_as_many_numbers_as_can_be(self):
        calls = (eight_long_jobs() * 50)[:399]
        self.assertEqual(len(line([BEGIN] + calls)), 1 + 399 * 37)
        self.check(calls)
        self.check(((eight_long_jobs() + [BEGIN]) * 45)[:399])


class AllCallsInOneLine(unittest.TestCase):
    # Way 0: 0 2 2 0 0 1; ways 1 and 2: 0 0 0 1 2 2.
    first = [job(10, 0, [1, 1, 1]), job(30, 1, [1]), job(20, 1, [0, 0])]
    # Ways 0 and 1: 0 1 and then nobody; way 2: 0 0 1 1.
    second = [job(20, 0, [1, 3]), job(30, 1, [2, 3])]
    looks = [ceiling(0), runs(0, 2), at(1, 2, 0), ends(0, 0), ends(2, 1), turns(0, 1), turns(1, 1), most(1), left(0)]

    def test_the_first_row(self):
        self.assertEqual(ask(self.first + self.looks), [1, 2, 3, 30, 2, 30, 5, 4, 4, 2, 2, 0])

    def test_the_second_row(self):
        self.assertEqual(ask(self.second + self.looks), [1, 2, 30, -5, 30, -2, 4, 0, 0, 1, 2])

    def test_begin_in_the_middle(self):
        calls = self.first + self.looks + [BEGIN] + self.looks + self.second + self.looks + [ends(0, 2), most(2)]
        none = [0, -4, -1, -1, -1, -1, -1, -1, 0]
        due = [1, 2, 3, 30, 2, 30, 5, 4, 4, 2, 2, 0] + [0] + none + [1, 2, 30, -5, 30, -2, 4, 0, 0, 1, 2] + [-1, -1]
        self.assertEqual(ask(calls), due)
        self.assertEqual(model(calls), due)

    def test_refusals_between_leave_what_there_was(self):
        refused = [job(10, 0, [255]), job(0, 0, [255]), job_without_units(40, 0, 33), ceiling(8), runs(3, 0),
                   at(0, 2000, 0), ends(0, 3), ends(3, 0), turns(-1, 0), turns(0, -1), most(3), left(3)]
        due = [-3] + [-1] * 11
        calls = self.first + self.looks + refused + self.looks + refused
        looked = [30, 2, 30, 5, 4, 4, 2, 2, 0]
        self.assertEqual(ask(calls), [1, 2, 3] + looked + due + looked + due)
        # And with one refusal before each look.
        mixed = [call for pair in zip(refused, self.looks) for call in pair]
        self.assertEqual(ask(self.first + mixed)[4::2], looked)

    def test_a_job_told_after_something_was_asked_of_those_before_it(self):
        calls = self.first + self.looks + [job(40, 2, [3, 2]), job(5, 0, [2, 2])] + self.looks
        # Job 3 waits for job 0 as job 1 does. Way 0: 0 2 2 0 0 3 3 1 4 4; ways 1 and 2: 0 0 0 3 3 1 2 2 4 4.
        due = [40, 2, 40, 5, 6, 4, 2, 2, 0]
        self.assertEqual(ask(calls)[12:], [4, 5] + due)
        self.assertEqual(model(calls)[12:], [4, 5] + due)


class NothingElse(unittest.TestCase):
    def test_what_is_handed_in_is_as_it_was(self):
        for calls in (line([BEGIN] + SOME), line([BEGIN] + longest_line())):
            kept = list(calls)
            answers(calls)
            self.assertEqual(calls, kept)

    def test_what_is_handed_in_is_not_changed_for_a_while_either(self):
        class Watched(list):
            def refuse(self, *given):
                raise AssertionError("the list was changed")

            append = extend = insert = pop = remove = clear = reverse = sort = refuse
            __setitem__ = __delitem__ = __iadd__ = __imul__ = refuse

        calls = line([BEGIN] + SOME)
        self.assertEqual(answers(Watched(calls)), answers(calls))

    def test_the_same_list_asked_twice_is_answered_the_same(self):
        for calls in (line([BEGIN] + SOME), line([BEGIN] + longest_line())):
            first = answers(calls)
            self.assertEqual(answers(calls), first)
            answers(line([BEGIN, job(1, 0, [255]), runs(0, 0), left(1)]))
            self.assertEqual(answers(calls), first)

    def test_what_was_given_back_may_be_changed(self):
        calls = line([BEGIN] + SOME)
        first = answers(calls)
        kept = list(first)
        first.clear()
        self.assertEqual(answers(calls), kept)

    def test_nothing_is_kept_from_the_time_before(self):
        answers(line([BEGIN] + SOME))
        self.assertEqual(answers(line([BEGIN, ceiling(0), runs(0, 0), job(10, 0, [1])])), [1, 0, 1, 0, 1, -4, 1, 1])
        answers(line([BEGIN] + SOME))
        asked = [ends(1, 0), turns(1, 1), most(1), left(1), job(9, 0, [1]), ends(1, 0)]
        self.assertEqual(ask(asked), [-1, -1, -1, 0, 1, 1])

    def test_nothing_is_printed(self):
        out, err = io.StringIO(), io.StringIO()
        with contextlib.redirect_stdout(out), contextlib.redirect_stderr(err):
            answers(line([BEGIN] + SOME))
        self.assertEqual(out.getvalue() + err.getvalue(), "")


if __name__ == "__main__":
    unittest.main()
