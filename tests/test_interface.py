"""The interface: how calls stand in the list, what is given back, and that nothing else is done."""

import contextlib
import io
import unittest

from helper import (BEGIN, WAYS, ask, at, ceiling, job, job_without_units, line, model, runs)
from lockjobs.jobs import answers

SOME = [job(10, 0, [1, 1, 1]), job(30, 1, [1]), job(20, 1, [0, 0]), ceiling(0), ceiling(9), runs(1, 1), at(1, 1, 0)]


def longest_line():
    """400 calls with the begin: eight jobs of 32 units, the rest looks at all times."""
    told = [job(1000 - 7 * i, 13 * i, [1 + (37 * i + 11 * k) % 255 for k in range(32)]) for i in range(8)]
    looks = []
    for k in range(391 - 8):
        looks.append(at(k % 3, 5 * k, k % 8) if k % 2 == 0 else runs(k % 3, 5 * k))
    return told + looks + [ceiling(lock) for lock in range(8)]


class Form(unittest.TestCase):
    def test_the_shortest_line(self):
        self.assertEqual(answers([0]), [1, 0])

    def test_each_answer_has_its_count_before_it(self):
        given = answers(line([BEGIN] + SOME))
        self.assertEqual(given, [1, 0, 1, 1, 1, 2, 1, 3, 1, 30, 1, -1, 1, 0, 1, 30])

    def test_a_refused_job_is_passed_over_whole(self):
        calls = [0, 1, 0, 0, 3, 3, 0, 0, 0, 2, 0, 1, 5, 0, 33, 0, 2, 0, 1, 5, 0, 2, 2, 1, 1, 2, 0]
        self.assertEqual(answers(calls), [1, 0, 1, -1, 1, 0, 1, -1, 1, 0, 1, 1, 1, 5])

    def test_it_gives_back_a_list_of_whole_numbers(self):
        given = answers(line([BEGIN] + SOME))
        self.assertIs(type(given), list)
        self.assertEqual({type(number) for number in given}, {int})

    def test_the_longest_line(self):
        calls = longest_line()
        self.assertEqual(len([BEGIN] + calls), 400)
        self.assertEqual(ask(calls), model(calls))

    def test_the_longest_line_of_begins_and_of_refusals(self):
        self.assertEqual(answers([0] * 400), [1, 0] * 400)
        self.assertEqual(ask([job_without_units(1, 0, 0)] * 399), [-1] * 399)

    def test_a_line_that_asks_for_as_many_timetables_as_can_be(self):
        row = longest_line()[:8] + [runs(way, 1999) for way in WAYS] + [BEGIN]
        calls = (row * 34)[:399]
        self.assertEqual(ask(calls), model(calls))


class NothingElse(unittest.TestCase):
    def test_what_is_handed_in_is_as_it_was(self):
        for calls in (line([BEGIN] + SOME), line([BEGIN] + longest_line())):
            kept = list(calls)
            answers(calls)
            self.assertEqual(calls, kept)

    def test_what_is_handed_in_is_not_changed_for_a_while_either(self):
        class Watched(list):
            def refuse(self, *given):
                raise AssertionError("the list was changed")

            append = extend = insert = pop = remove = clear = reverse = sort = refuse
            __setitem__ = __delitem__ = __iadd__ = __imul__ = refuse

        calls = line([BEGIN] + SOME)
        self.assertEqual(answers(Watched(calls)), answers(calls))

    def test_the_same_list_asked_twice_is_answered_the_same(self):
        calls = line([BEGIN] + SOME)
        first = answers(calls)
        self.assertEqual(answers(calls), first)
        answers(line([BEGIN, job(1, 0, [255]), runs(0, 0)]))
        self.assertEqual(answers(calls), first)

    def test_what_was_given_back_may_be_changed(self):
        calls = line([BEGIN] + SOME)
        first = answers(calls)
        kept = list(first)
        first.clear()
        self.assertEqual(answers(calls), kept)

    def test_nothing_is_kept_from_the_time_before(self):
        answers(line([BEGIN] + SOME))
        self.assertEqual(answers(line([BEGIN, ceiling(0), runs(0, 0), job(10, 0, [1])])), [1, 0, 1, 0, 1, -4, 1, 1])

    def test_nothing_is_printed(self):
        out, err = io.StringIO(), io.StringIO()
        with contextlib.redirect_stdout(out), contextlib.redirect_stderr(err):
            answers(line([BEGIN] + SOME))
        self.assertEqual(out.getvalue() + err.getvalue(), "")


if __name__ == "__main__":
    unittest.main()
