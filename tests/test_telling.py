"""Points 1 to 3: begin, job, ceiling."""

import unittest

from helper import (BEGIN, GREATEST, LEAST, WAYS, ask, ask_after, at, ceiling, ends, job, job_without_units, left, most,
                    runs, turns)

ALL_CEILINGS = [ceiling(lock) for lock in range(8)]
EIGHT = [job(100 * (i + 1), i, [1 << i]) for i in range(8)]
OUTSIDE_PRIORITY = (LEAST, -1, 0, 1001, GREATEST)
OUTSIDE_COMES = (LEAST, -1, 1001, GREATEST)
OUTSIDE_N = (LEAST, -1, 0, 33, GREATEST)


class Begin(unittest.TestCase):
    def test_it_answers_0_each_time(self):
        self.assertEqual(ask([BEGIN, BEGIN, job(5, 0, [1]), BEGIN]), [0, 0, 1, 0])

    def test_the_jobs_told_before_are_gone(self):
        looks = ALL_CEILINGS + [runs(way, 0) for way in WAYS] + [at(way, 0, 0) for way in WAYS]
        told = EIGHT + looks + [BEGIN]
        self.assertEqual(ask_after(told, looks), [0] * 8 + [-4] * 3 + [-1] * 3)
        looks = [ends(1, 0), turns(1, 0), most(0), left(1)]
        self.assertEqual(ask_after(EIGHT + looks + [BEGIN], looks), [-1, -1, -1, 0])

    def test_jobs_are_counted_and_numbered_anew_and_priorities_are_free_again(self):
        told = EIGHT + [BEGIN]
        asked = [job(100, 0, [0]), job(200, 0, [0]), runs(0, 0), at(0, 0, 0), at(0, 0, 2)]
        self.assertEqual(ask_after(told, asked), [1, 2, 1, 100, -1])


class Job(unittest.TestCase):
    def test_it_answers_how_many_there_are(self):
        self.assertEqual(ask(EIGHT), [1, 2, 3, 4, 5, 6, 7, 8])

    def test_the_edges_of_each_range_are_taken(self):
        asked = [job(1, 0, [0]), job(1000, 1000, [255] * 32), job(2, 1000, [255]), job(999, 0, [0] * 32)]
        self.assertEqual(ask(asked), [1, 2, 3, 4])

    def test_a_priority_outside_is_refused(self):
        for priority in OUTSIDE_PRIORITY:
            self.assertEqual(ask([job(priority, 0, [1])]), [-1], priority)

    def test_a_coming_outside_is_refused(self):
        for comes in OUTSIDE_COMES:
            self.assertEqual(ask([job(1, comes, [1])]), [-1], comes)

    def test_a_number_of_units_outside_is_refused(self):
        for n in OUTSIDE_N:
            self.assertEqual(ask([job_without_units(1, 0, n)]), [-1], n)

    def test_a_ninth_job_is_refused(self):
        self.assertEqual(ask_after(EIGHT, [job(50, 0, [1]), job(50, 0, [1])]), [-2, -2])

    def test_a_priority_that_another_has_is_refused(self):
        asked = [job(5, 0, [1]), job(6, 0, [1]), job(5, 9, [2, 2]), job(6, 0, [1]), job(7, 0, [1])]
        self.assertEqual(ask(asked), [1, 2, -3, -3, 3])

    def test_minus_1_goes_before_minus_2(self):
        asked = [job(0, 0, [1]), job(50, 1001, [1]), job_without_units(50, 0, 33)]
        self.assertEqual(ask_after(EIGHT, asked), [-1, -1, -1])

    def test_minus_1_goes_before_minus_3(self):
        asked = [job(5, -1, [1]), job_without_units(5, 0, 0)]
        self.assertEqual(ask_after([job(5, 0, [1])], asked), [-1, -1])

    def test_minus_1_goes_before_both(self):
        asked = [job(100, -1, [1]), job_without_units(100, 0, 0)]
        self.assertEqual(ask_after(EIGHT, asked), [-1, -1])

    def test_minus_2_goes_before_minus_3(self):
        self.assertEqual(ask_after(EIGHT, [job(100, 0, [1]), job(800, 0, [1])]), [-2, -2])

    def test_nothing_is_told_at_a_refusal(self):
        told = [job(10, 0, [1, 1]), job(20, 1, [3])]
        looks = ALL_CEILINGS + [runs(way, t) for way in WAYS for t in range(5)]
        looks = looks + [at(way, t, i) for way in WAYS for t in range(5) for i in range(3)]
        looks = looks + [ends(way, 0) for way in WAYS] + [turns(way, 1) for way in WAYS] + [left(way) for way in WAYS]
        looks = looks + [most(1), most(2), ends(0, 2), turns(0, 2)]
        due = ask_after(told, looks)
        refused = [job(priority, 0, [255]) for priority in OUTSIDE_PRIORITY]
        refused += [job(30, comes, [255]) for comes in OUTSIDE_COMES]
        refused += [job_without_units(30, 0, n) for n in OUTSIDE_N]
        refused += [job(10, 0, [255]), job(20, 0, [255])]
        for one in refused:
            self.assertEqual(ask_after(told + [one], looks), due, one)
            self.assertEqual(ask_after(told + looks + [one], looks), due, one)
            self.assertEqual(ask_after(told + [one], [job(30, 0, [1])]), [3], one)

    def test_a_ninth_job_leaves_the_eight_as_they_were(self):
        looks = ALL_CEILINGS + [runs(way, t) for way in WAYS for t in range(10)] + [at(0, 0, 8)]
        due = ask_after(EIGHT, looks)
        self.assertEqual(ask_after(EIGHT + [job(1000, 0, [255])], looks), due)

    def test_a_refused_priority_stays_free(self):
        asked = [job(5, 1001, [1]), job(5, 1000, [1])]
        self.assertEqual(ask(asked), [-1, 1])


class Ceiling(unittest.TestCase):
    def test_no_job_needs_it(self):
        self.assertEqual(ask(ALL_CEILINGS), [0] * 8)
        self.assertEqual(ask_after([job(9, 0, [0, 0])], ALL_CEILINGS), [0] * 8)

    def test_it_is_the_greatest_priority_of_those_that_need_it_for_any_unit(self):
        told = [job(20, 0, [0, 1, 0]), job(50, 900, [2, 0]), job(30, 5, [0, 3]), job(10, 0, [128, 4])]
        self.assertEqual(ask_after(told, ALL_CEILINGS), [30, 50, 10, 0, 0, 0, 0, 10])

    def test_each_bit_is_its_lock(self):
        self.assertEqual(ask_after(EIGHT, ALL_CEILINGS), [100, 200, 300, 400, 500, 600, 700, 800])

    def test_all_locks_at_once(self):
        told = [job(1000, 1000, [255] * 32), job(1, 0, [255])]
        self.assertEqual(ask_after(told, ALL_CEILINGS), [1000] * 8)

    def test_the_last_of_32_units_counts(self):
        self.assertEqual(ask_after([job(7, 0, [0] * 31 + [128])], ALL_CEILINGS), [0] * 7 + [7])

    def test_it_grows_as_jobs_are_told(self):
        asked = [ceiling(0), job(5, 0, [1]), ceiling(0), job(3, 0, [1]), ceiling(0), job(8, 0, [1]), ceiling(0)]
        self.assertEqual(ask(asked), [0, 1, 5, 2, 5, 3, 8])

    def test_there_is_no_such_lock(self):
        asked = [ceiling(lock) for lock in (LEAST, -1, 8, GREATEST)]
        self.assertEqual(ask_after(EIGHT, asked), [-1] * 4)
        self.assertEqual(ask(asked), [-1] * 4)

    def test_what_there_was_stays_at_a_refusal(self):
        told = EIGHT + [ceiling(8), ceiling(-1)]
        self.assertEqual(ask_after(told, [ceiling(0), ceiling(7), runs(0, 0)]), [100, 800, 0])


if __name__ == "__main__":
    unittest.main()
