"""Points 6, 7 and 9: ends, turns, left. Each timetable below was worked out by hand from the document's words."""

import unittest

from helper import (BEGIN, GREATEST, LEAST, WAYS, ask, ask_after, at, ceiling, ends, job, left, most, runs, turns)

OUTSIDE_WAY = (LEAST, -1, 3, GREATEST)
# A low one holds what a high one wants, and a middling one comes between.
# Way 0: 0 2 2 2 2 0 0 1; ways 1 and 2: 0 0 0 1 2 2 2 2.
BETWEEN = [job(10, 0, [1, 1, 1]), job(30, 1, [1]), job(20, 1, [0, 0, 0, 0])]
# Job 2 waits for job 1, which waits for job 0; job 3 needs no lock.
# Way 0: 0 1 0 3 3 0 0 1 1 2; way 1: 0 1 0 0 0 1 1 2 3 3; way 2: 0 0 0 2 3 3 0 1 1 1.
CHAIN = [job(10, 0, [1, 1, 1, 1]), job(20, 1, [2, 3, 3]), job(40, 3, [2]), job(30, 3, [0, 0])]
# Each holds what the other wants, but in way 2: there it goes 0 0 1 1.
STUCK = [job(5, 0, [1, 3]), job(6, 1, [2, 3])]
# Each holds one lock and wants the next one's.
RING = [job(10 + i, i, [1 << i, (1 << i) | (1 << (i + 1) % 8)]) for i in range(8)]
EIGHT_LONG = [job(10 + i, 1000, [255] * 32) for i in range(8)]


def all_ends(told, way):
    return ask_after(told, [ends(way, i) for i in range(len(told))])


def all_turns(told, way):
    return ask_after(told, [turns(way, i) for i in range(len(told))])


class Ends(unittest.TestCase):
    def test_each_way_has_its_times(self):
        self.assertEqual([all_ends(BETWEEN, way) for way in WAYS], [[7, 8, 5], [3, 4, 8], [3, 4, 8]])
        self.assertEqual([all_ends(CHAIN, way) for way in WAYS], [[7, 9, 10, 5], [5, 7, 8, 10], [7, 10, 4, 6]])

    def test_one_unit_at_time_0_is_done_before_time_1(self):
        for way in WAYS:
            self.assertEqual(all_ends([job(1, 0, [0])], way), [1])

    def test_one_that_comes_later_is_done_later(self):
        for way in WAYS:
            self.assertEqual(all_ends([job(7, 4, [1, 1, 0])], way), [7])

    def test_a_unit_in_which_others_run_puts_it_off(self):
        told = [job(1, 0, [0, 0, 0]), job(3, 1, [0, 0]), job(2, 0, [0, 0])]
        for way in WAYS:
            self.assertEqual(all_ends(told, way), [7, 3, 4])

    def test_the_last_coming_and_the_most_units(self):
        for way in WAYS:
            self.assertEqual(all_ends([job(1000, 1000, [255] * 32)], way), [1032])
            self.assertEqual(all_ends(EIGHT_LONG, way), [1256 - 32 * i for i in range(8)])

    def test_one_that_is_stuck_is_not_done(self):
        for way in (0, 1):
            self.assertEqual(all_ends(STUCK, way), [-2, -2])
            self.assertEqual(all_ends(RING, way), [-2] * 8)

    def test_way_2_lets_nobody_be_stuck(self):
        self.assertEqual(all_ends(STUCK, 2), [2, 4])
        self.assertNotIn(-2, all_ends(RING, 2))

    def test_some_are_done_though_others_are_stuck(self):
        told = STUCK + [job(9, 1000, [4, 0]), job(1, 0, [0]), job(8, 500, [1])]
        for way in (0, 1):
            # The first three units are the two that get stuck, then the least one.
            self.assertEqual(all_ends(told, way), [-2, -2, 1002, 3, -2])

    def test_one_with_all_but_its_last_unit_done_is_not_done(self):
        told = [job(1, 0, [1] * 31 + [3]), job(2, 31, [2, 3])]
        for way in (0, 1):
            self.assertEqual(ask_after(told, [runs(way, t) for t in (30, 31, 32)]), [0, 1, -5])
            self.assertEqual(all_ends(told, way), [-2, -2])


class Turns(unittest.TestCase):
    def test_each_way_has_its_number(self):
        self.assertEqual([all_turns(BETWEEN, way) for way in WAYS], [[0, 6, 0], [0, 2, 2], [0, 2, 2]])
        self.assertEqual([all_turns(CHAIN, way) for way in WAYS], [[0, 3, 6, 0], [0, 3, 4, 4], [0, 3, 0, 0]])

    def test_way_2_where_one_waits_for_a_lock_that_it_does_not_want(self):
        # Ways 0 and 1: 0 1 0 0 1; way 2: 0 0 0 1 1.
        told = [job(1, 0, [1, 1, 1]), job(2, 1, [2, 1])]
        self.assertEqual([all_turns(told, way) for way in WAYS], [[0, 2], [0, 2], [0, 2]])
        # Ways 0 and 1: 0 1 1 0 0; way 2: 0 0 0 1 1, for the sake of a job that comes at 900.
        told = [job(1, 0, [1, 1, 1]), job(2, 1, [2, 2]), job(3, 900, [1])]
        self.assertEqual([all_turns(told, way) for way in WAYS], [[0, 0, 0], [0, 0, 0], [0, 2, 0]])

    def test_units_before_it_comes_and_after_it_is_done_do_not_count(self):
        told = [job(1, 0, [0] * 6), job(2, 3, [0])]
        for way in WAYS:
            self.assertEqual(all_turns(told, way), [0, 0])
        # The lesser one has five units in which it holds on to the lock, and three behind them.
        told = [job(1, 0, [1] * 5 + [0] * 3), job(2, 3, [1])]
        for way in WAYS:
            self.assertEqual(all_turns(told, way), [0, 2])
            self.assertEqual(all_ends(told, way), [9, 6])

    def test_units_in_which_a_greater_one_runs_do_not_count(self):
        told = [job(1, 0, [0, 0]), job(3, 0, [0] * 5), job(2, 0, [0, 0])]
        for way in WAYS:
            self.assertEqual(all_turns(told, way), [0, 0, 0])

    def test_what_the_runner_has_of_its_own_counts_not_what_it_runs_at(self):
        # Job 0 runs at 30 while job 1 waits, so job 2 sees one of a lesser priority of its own.
        asked = [at(1, 1, 0), runs(1, 1), turns(1, 2)]
        self.assertEqual(ask_after(BETWEEN, asked), [30, 0, 2])

    def test_its_own_priority_counts_not_what_it_runs_at(self):
        # Job 2 waits for job 0, which so runs at 30, and job 0 for job 1 of 20, which runs: 0 1 1 1 0 2.
        told = [job(10, 0, [1, 3]), job(20, 1, [2, 2, 2]), job(30, 2, [1])]
        self.assertEqual(ask_after(told, [at(1, 2, 0), at(1, 3, 0), runs(1, 2), runs(1, 3)]), [30, 30, 1, 1])
        self.assertEqual(all_turns(told, 1), [0, 0, 3])

    def test_units_in_which_nobody_runs_do_not_count(self):
        told = STUCK + [job(9, 5, [1])]
        for way in (0, 1):
            self.assertEqual(all_turns(told, way), [0, 0, 0])
        self.assertEqual(all_turns(STUCK, 2), [0, 1])

    def test_one_that_is_never_done_counts_on(self):
        told = STUCK + [job(9, 5, [1]), job(1, 1000, [0] * 32), job(7, 990, [0] * 3)]
        for way in (0, 1):
            # Job 4 runs for three units from 990 on, job 3 for 32 from 1000 on.
            self.assertEqual(all_turns(told, way), [32, 32, 35, 0, 0])
            self.assertEqual(all_ends(told, way), [-2, -2, -2, 1032, 993])

    def test_the_last_units_that_can_be(self):
        told = [job(999, 0, [1, 3]), job(1000, 1, [2, 3])] + [job(i + 1, 1000, [4] * 32) for i in range(6)]
        for way in (0, 1):
            self.assertEqual(all_turns(told, way), [192, 192, 0, 0, 0, 0, 0, 0])

    def test_nobody_else_is_there(self):
        for way in WAYS:
            self.assertEqual(all_turns([job(5, 3, [1, 1])], way), [0])


class Left(unittest.TestCase):
    def test_with_no_jobs(self):
        self.assertEqual(ask([left(way) for way in WAYS]), [0, 0, 0])

    def test_with_all_done(self):
        for told in (BETWEEN, CHAIN, EIGHT_LONG):
            self.assertEqual(ask_after(told, [left(way) for way in WAYS]), [0, 0, 0])

    def test_two_are_left(self):
        self.assertEqual(ask_after(STUCK, [left(way) for way in WAYS]), [2, 2, 0])

    def test_some_are_left_and_some_are_not(self):
        told = STUCK + [job(9, 1000, [4, 0]), job(1, 0, [0]), job(8, 500, [1])]
        self.assertEqual(ask_after(told, [left(way) for way in WAYS]), [3, 3, 0])

    def test_all_eight_are_left(self):
        self.assertEqual(ask_after(RING, [left(way) for way in WAYS]), [8, 8, 0])

    def test_a_job_told_later_and_a_begin_change_it(self):
        asked = STUCK[:1] + [left(0)] + STUCK[1:] + [left(0), BEGIN, left(0)]
        self.assertEqual(ask(asked), [1, 0, 2, 2, 0, 0])


class Refusals(unittest.TestCase):
    def test_there_is_no_such_way(self):
        for way in OUTSIDE_WAY:
            self.assertEqual(ask_after(STUCK, [ends(way, 0), turns(way, 0), left(way)]), [-1, -1, -1], way)
            self.assertEqual(ask([ends(way, 0), turns(way, 0), left(way)]), [-1, -1, -1], way)

    def test_there_is_no_such_job(self):
        for way in WAYS:
            for number in (LEAST, -2, -1, 2, 3, 7, 8, GREATEST):
                self.assertEqual(ask_after(STUCK, [ends(way, number), turns(way, number)]), [-1, -1], number)

    def test_before_any_job_is_told(self):
        for way in WAYS:
            self.assertEqual(ask([ends(way, 0), turns(way, 0)]), [-1, -1])

    def test_the_last_of_eight_and_one_behind_it(self):
        for way in WAYS:
            asked = [ends(way, 7), turns(way, 7), ends(way, 8), turns(way, 8)]
            self.assertEqual(ask_after(EIGHT_LONG, asked), [1032, 0, -1, -1])

    def test_minus_1_goes_before_minus_2(self):
        self.assertEqual(ask_after(STUCK, [ends(3, 0), ends(-1, 0), ends(0, 2), ends(0, 0)]), [-1, -1, -1, -2])

    def test_what_there_was_stays(self):
        looks = [call for way in WAYS for call in (ends(way, 0), turns(way, 1), left(way), runs(way, 1), at(way, 1, 0))]
        looks = looks + [ceiling(0), most(1)]
        due = ask_after(STUCK, looks)
        refused = [call for way in OUTSIDE_WAY for call in (ends(way, 0), turns(way, 0), left(way))]
        refused += [ends(0, 2), turns(0, 2), ends(0, -1), turns(0, -1), ends(0, 0), ends(1, 1)]
        for one in refused:
            self.assertLess(ask_after(STUCK, [one])[0], 0)
            self.assertEqual(ask_after(STUCK + [one], looks), due, one)
            self.assertEqual(ask_after(STUCK + [one], [job(9, 0, [0])]), [3], one)


if __name__ == "__main__":
    unittest.main()
