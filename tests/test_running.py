"""Points 4 and 5: runs, at. Each timetable below was worked out by hand from the document's words."""

import unittest

from helper import (BEGIN, GREATEST, LEAST, WAYS, ask, ask_after, at, ceiling, job, runs)

OUTSIDE_WAY = (LEAST, -1, 3, GREATEST)
OUTSIDE_TIME = (LEAST, -1, 2000, GREATEST)


def who(told, way, times):
    return ask_after(told, [runs(way, t) for t in times])


def levels(told, way, t):
    return ask_after(told, [at(way, t, i) for i in range(len(told))])


class OneWaitsForALesserOne(unittest.TestCase):
    """A low one holds what a high one wants, and a middling one comes between."""

    told = [job(10, 0, [1, 1, 1]), job(30, 1, [1]), job(20, 1, [0, 0, 0, 0])]

    def test_way_0_the_middling_one_goes_first(self):
        self.assertEqual(who(self.told, 0, range(9)), [0, 2, 2, 2, 2, 0, 0, 1, -4])

    def test_ways_1_and_2_the_low_one_goes_first(self):
        for way in (1, 2):
            self.assertEqual(who(self.told, way, range(9)), [0, 0, 0, 1, 2, 2, 2, 2, -4])

    def test_way_0_lends_nothing(self):
        self.assertEqual(levels(self.told, 0, 0), [10, -4, -4])
        self.assertEqual(levels(self.told, 0, 1), [10, 30, 20])
        self.assertEqual(levels(self.told, 0, 6), [10, 30, -4])
        self.assertEqual(levels(self.told, 0, 7), [-4, 30, -4])
        self.assertEqual(levels(self.told, 0, 8), [-4, -4, -4])

    def test_ways_1_and_2_lend_while_it_waits(self):
        for way in (1, 2):
            self.assertEqual(levels(self.told, way, 0), [10, -4, -4])
            self.assertEqual(levels(self.told, way, 1), [30, 30, 20])
            self.assertEqual(levels(self.told, way, 2), [30, 30, 20])
            self.assertEqual(levels(self.told, way, 3), [-4, 30, 20])
            self.assertEqual(levels(self.told, way, 4), [-4, -4, 20])

    def test_what_was_lent_is_gone_once_the_lock_is_given_up(self):
        told = [job(10, 0, [1, 1, 0, 0]), job(30, 1, [1])]
        for way in (1, 2):
            self.assertEqual(ask_after(told, [at(way, t, 0) for t in range(6)]), [10, 30, 10, 10, 10, -4])
            self.assertEqual(who(told, way, range(6)), [0, 0, 1, 0, 0, -4])


class WhatIsLentIsLentOn(unittest.TestCase):
    """Job 2 waits for job 1, which waits for job 0; job 3 needs no lock."""

    told = [job(10, 0, [1, 1, 1, 1]), job(20, 1, [2, 3, 3]), job(40, 3, [2]), job(30, 3, [0, 0])]

    def test_way_0(self):
        self.assertEqual(who(self.told, 0, range(11)), [0, 1, 0, 3, 3, 0, 0, 1, 1, 2, -4])
        self.assertEqual(levels(self.told, 0, 3), [10, 20, 40, 30])

    def test_way_1(self):
        self.assertEqual(who(self.told, 1, range(11)), [0, 1, 0, 0, 0, 1, 1, 2, 3, 3, -4])
        self.assertEqual(levels(self.told, 1, 2), [20, 20, -4, -4])
        self.assertEqual(levels(self.told, 1, 3), [40, 40, 40, 30])
        self.assertEqual(levels(self.told, 1, 5), [-4, 40, 40, 30])

    def test_way_2(self):
        self.assertEqual(who(self.told, 2, range(11)), [0, 0, 0, 2, 3, 3, 0, 1, 1, 1, -4])
        self.assertEqual(levels(self.told, 2, 1), [20, 20, -4, -4])
        self.assertEqual(levels(self.told, 2, 3), [20, 20, 40, 30])

    def test_over_seven_steps_whatever_the_order_of_telling(self):
        # Job i holds lock i and wants lock i - 1, which the job before it holds; a great one wants lock 6.
        held = [job(100, 0, [1, 1, 1])] + [job(200 + i, i, [1 << i, 3 << (i - 1)]) for i in range(1, 7)]
        held = held + [job(1000, 7, [64])]
        for row in (held, held[::-1]):
            self.assertEqual(levels(row, 1, 7), [1000] * 8)
            self.assertEqual(levels(row, 0, 7), [call[1] for call in row])

    def test_way_2_where_one_that_was_lent_to_waits_itself(self):
        told = [job(10, 0, [2, 6]), job(40, 1, [1, 1, 1]), job(20, 2, [2])]
        self.assertEqual(who(told, 2, range(7)), [0, 1, 1, 1, 0, 2, -4])
        self.assertEqual(levels(told, 2, 1), [10, 40, -4])
        self.assertEqual(levels(told, 2, 2), [20, 40, 20])
        self.assertEqual(levels(told, 2, 4), [20, -4, 20])


class Holding(unittest.TestCase):
    def test_a_lock_is_held_between_two_units_that_need_it(self):
        told = [job(1, 0, [1, 1]), job(2, 1, [1])]
        for way in WAYS:
            self.assertEqual(who(told, way, range(4)), [0, 0, 1, -4])

    def test_a_lock_is_not_held_before_a_unit_that_does_not_need_it(self):
        for needs in ([1, 0, 1], [1, 2, 1]):
            told = [job(1, 0, needs), job(2, 1, [1])]
            for way in WAYS:
                self.assertEqual(who(told, way, range(5)), [0, 1, 0, 0, -4])

    def test_a_lock_is_not_held_before_the_first_unit_that_needs_it(self):
        told = [job(1, 0, [0, 1]), job(2, 1, [1])]
        for way in WAYS:
            self.assertEqual(who(told, way, range(4)), [0, 1, 0, -4])

    def test_nothing_is_held_once_all_is_done_or_before_it_comes(self):
        told = [job(1, 0, [1]), job(2, 1, [1, 1]), job(3, 9, [1])]
        for way in WAYS:
            self.assertEqual(who(told, way, [0, 1, 2, 3, 9, 10]), [0, 1, 1, -4, 2, -4])

    def test_one_lock_of_several_is_enough_to_wait(self):
        told = [job(1, 0, [4, 4]), job(2, 1, [7])]
        for way in WAYS:
            self.assertEqual(who(told, way, range(4)), [0, 0, 1, -4])

    def test_lock_7_is_held_as_lock_0_is(self):
        told = [job(1, 0, [128, 128]), job(2, 1, [129])]
        for way in WAYS:
            self.assertEqual(who(told, way, range(4)), [0, 0, 1, -4])

    def test_one_is_not_kept_waiting_by_what_it_holds_itself(self):
        told = [job(5, 0, [1, 3, 2, 255])]
        for way in WAYS:
            self.assertEqual(who(told, way, range(5)), [0, 0, 0, 0, -4])


class Ceilings(unittest.TestCase):
    """What only way 2 does: one waits for locks that it doesn't want."""

    def test_a_ceiling_that_equals_the_priority_keeps_waiting(self):
        told = [job(1, 0, [1, 1, 1]), job(2, 1, [2, 1])]
        self.assertEqual(who(told, 1, range(6)), [0, 1, 0, 0, 1, -4])
        self.assertEqual(who(told, 2, range(6)), [0, 0, 0, 1, 1, -4])
        self.assertEqual(levels(told, 2, 1), [2, 2])

    def test_a_ceiling_below_the_priority_does_not(self):
        told = [job(1, 0, [1, 1, 1]), job(2, 1, [2, 2])]
        self.assertEqual(who(told, 2, range(6)), [0, 1, 1, 0, 0, -4])
        self.assertEqual(levels(told, 2, 1), [1, 2])

    def test_a_job_that_comes_much_later_counts_for_the_ceiling(self):
        told = [job(1, 0, [1, 1, 1]), job(2, 1, [2, 2]), job(3, 1000, [1])]
        self.assertEqual(who(told, 2, range(6)), [0, 0, 0, 1, 1, -4])

    def test_the_greatest_ceiling_of_several_locks_counts(self):
        told = [job(1, 0, [3, 3]), job(2, 1, [4]), job(3, 9, [2])]
        self.assertEqual(who(told, 2, range(4)), [0, 0, 1, -4])

    def test_one_that_wants_no_lock_does_not_wait(self):
        told = [job(1, 0, [1, 1, 1]), job(3, 1, [0]), job(2, 2, [0, 0]), job(4, 900, [1])]
        self.assertEqual(who(told, 2, range(7)), [0, 1, 2, 2, 0, 0, -4])


class TwoAtTheSamePriority(unittest.TestCase):
    """A high one waits for two others, which both run at its priority: the greater of them goes first."""

    low = job(1, 0, [1, 1, 1])
    middle = job(2, 1, [2, 2, 2])
    high = job(3, 2, [3])

    def test_the_greater_of_its_own_runs(self):
        told = [self.low, self.middle, self.high]
        self.assertEqual(levels(told, 1, 2), [3, 3, 3])
        self.assertEqual(who(told, 1, range(8)), [0, 1, 1, 1, 0, 0, 2, -4])

    def test_the_order_of_telling_does_not_matter(self):
        told = [self.middle, self.low, self.high]
        self.assertEqual(who(told, 1, range(8)), [1, 0, 0, 0, 1, 1, 2, -4])

    def test_in_way_2_it_does_not_come_to_this(self):
        told = [self.low, self.middle, self.high]
        self.assertEqual(who(told, 2, range(8)), [0, 0, 0, 2, 1, 1, 1, -4])
        self.assertEqual(levels(told, 2, 2), [3, 2, 3])


class TwoThatAreStuck(unittest.TestCase):
    told = [job(1, 0, [1, 3]), job(2, 1, [2, 3])]

    def test_nobody_runs_though_both_are_ready(self):
        for way in (0, 1):
            self.assertEqual(who(self.told, way, [0, 1, 2, 3, 1000, 1999]), [0, 1, -5, -5, -5, -5])

    def test_what_they_run_at(self):
        for t in (2, 3, 1999):
            self.assertEqual(levels(self.told, 0, t), [1, 2])
            self.assertEqual(levels(self.told, 1, t), [2, 2])

    def test_way_2_does_not_let_it_come_to_this(self):
        self.assertEqual(who(self.told, 2, [0, 1, 2, 3, 4, 1999]), [0, 0, 1, 1, -4, -4])
        self.assertEqual(levels(self.told, 2, 1), [2, 2])
        self.assertEqual(levels(self.told, 2, 1999), [-4, -4])

    def test_another_that_comes_runs_and_leaves_them_stuck(self):
        told = self.told + [job(3, 1000, [4, 0])]
        for way in (0, 1):
            self.assertEqual(who(told, way, [999, 1000, 1001, 1002, 1999]), [-5, 2, 2, -5, -5])

    def test_another_that_comes_and_waits_lends_to_both(self):
        told = self.told + [job(9, 500, [1])]
        self.assertEqual(who(told, 1, [499, 500, 1999]), [-5, -5, -5])
        self.assertEqual(levels(told, 1, 499), [2, 2, -4])
        self.assertEqual(levels(told, 1, 500), [9, 9, 9])
        self.assertEqual(levels(told, 1, 1999), [9, 9, 9])
        self.assertEqual(levels(told, 0, 1999), [1, 2, 9])


class Coming(unittest.TestCase):
    def test_one_that_has_not_come_lends_nothing(self):
        told = [job(1, 0, [1, 1, 1, 1, 1]), job(2, 3, [1])]
        for way in (1, 2):
            self.assertEqual(ask_after(told, [at(way, t, 0) for t in range(6)]), [1, 1, 1, 2, 2, -4])

    def test_nobody_is_ready_before_between_and_after(self):
        told = [job(5, 2, [0, 0]), job(6, 6, [0])]
        for way in WAYS:
            self.assertEqual(who(told, way, range(9)), [-4, -4, 0, 0, -4, -4, 1, -4, -4])
            self.assertEqual(levels(told, way, 1), [-4, -4])
            self.assertEqual(levels(told, way, 3), [5, -4])
            self.assertEqual(levels(told, way, 6), [-4, 6])

    def test_the_greater_one_goes_first_and_takes_over_when_it_comes(self):
        told = [job(1, 0, [0, 0, 0]), job(3, 1, [0, 0]), job(2, 0, [0, 0])]
        for way in WAYS:
            self.assertEqual(who(told, way, range(8)), [2, 1, 1, 2, 0, 0, 0, -4])

    def test_the_last_coming_and_the_most_units(self):
        told = [job(1000, 1000, [255] * 32)]
        for way in WAYS:
            self.assertEqual(who(told, way, [0, 999, 1000, 1031, 1032, 1999]), [-4, -4, 0, 0, -4, -4])
            asked = [at(way, t, 0) for t in (0, 999, 1000, 1031, 1032, 1999)]
            self.assertEqual(ask_after(told, asked), [-4, -4, 1000, 1000, -4, -4])

    def test_eight_of_the_most_units_one_behind_another(self):
        told = [job(100 + (3 * i) % 8, 1000, [255] * 32) for i in range(8)]
        order = sorted(range(8), key=lambda i: -told[i][1])
        for way in WAYS:
            self.assertEqual(who(told, way, range(1000, 1257)), [order[k // 32] for k in range(256)] + [-4])

    def test_a_job_that_is_told_later_changes_what_was_asked_before(self):
        told = [job(1, 0, [0]), runs(0, 0), runs(1, 0), runs(2, 0), job(2, 0, [0])]
        asked = [runs(way, t) for way in WAYS for t in (0, 1)]
        self.assertEqual(ask_after(told, asked), [1, 0] * 3)

    def test_begin_changes_what_was_asked_before(self):
        told = [job(1, 0, [0]), runs(0, 0), runs(1, 0), runs(2, 0), BEGIN]
        self.assertEqual(ask_after(told, [runs(way, 0) for way in WAYS]), [-4] * 3)


class Refusals(unittest.TestCase):
    told = [job(1, 0, [1, 3]), job(2, 1, [2, 3])]

    def test_before_any_job_is_told(self):
        for way in WAYS:
            self.assertEqual(ask([runs(way, 0), runs(way, 1999), at(way, 0, 0)]), [-4, -4, -1])

    def test_there_is_no_such_way(self):
        for way in OUTSIDE_WAY:
            self.assertEqual(ask_after(self.told, [runs(way, 0), at(way, 0, 0)]), [-1, -1], way)
            self.assertEqual(ask([runs(way, 0)]), [-1], way)

    def test_there_is_no_such_time(self):
        for t in OUTSIDE_TIME:
            for way in WAYS:
                self.assertEqual(ask_after(self.told, [runs(way, t), at(way, t, 0)]), [-1, -1], t)
                self.assertEqual(ask([runs(way, t)]), [-1], t)

    def test_there_is_no_such_job(self):
        for number in (LEAST, -1, 2, 8, GREATEST):
            for way in WAYS:
                self.assertEqual(ask_after(self.told, [at(way, 0, number), at(way, 1999, number)]), [-1, -1], number)

    def test_the_last_of_eight_and_one_behind_it(self):
        told = [job(i + 1, 0, [0]) for i in range(8)]
        self.assertEqual(ask_after(told, [at(0, 0, 7), at(0, 0, 8), at(0, 0, -8)]), [8, -1, -1])

    def test_minus_1_goes_before_minus_4_and_minus_5(self):
        asked = [runs(3, 1999), at(3, 1999, 0), at(2, 2000, 0), at(2, 1999, 2), runs(-1, 2), runs(0, 2000)]
        self.assertEqual(ask_after(self.told, asked), [-1] * 6)

    def test_what_there_was_stays(self):
        looks = [ceiling(0), ceiling(1)] + [runs(way, t) for way in WAYS for t in range(5)]
        looks = looks + [at(way, t, i) for way in WAYS for t in range(5) for i in range(3)]
        due = ask_after(self.told, looks)
        refused = [runs(way, 0) for way in OUTSIDE_WAY] + [runs(0, t) for t in OUTSIDE_TIME]
        refused += [at(way, 0, 0) for way in OUTSIDE_WAY] + [at(0, t, 0) for t in OUTSIDE_TIME]
        refused += [at(0, 0, 2), at(0, 0, -1), runs(0, 2), runs(2, 1999), at(2, 1999, 0)]
        for one in refused:
            self.assertLess(ask_after(self.told, [one])[0], 0)
            self.assertEqual(ask_after(self.told + [one], looks), due, one)
            self.assertEqual(ask_after(self.told + [one], [job(9, 0, [0])]), [3], one)


if __name__ == "__main__":
    unittest.main()
