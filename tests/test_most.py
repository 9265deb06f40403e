"""Point 8: most."""

import unittest

from helper import (BEGIN, GREATEST, LEAST, ask, ask_after, ceiling, job, left, most, runs)


def all_most(told):
    return ask_after(told, [most(i) for i in range(len(told))])


class Most(unittest.TestCase):
    def test_no_job_of_lesser_priority(self):
        self.assertEqual(all_most([job(5, 0, [1, 1, 1])]), [0])
        # Neither the job's own units count, nor those of greater ones.
        self.assertEqual(all_most([job(5, 0, [1, 1]), job(9, 0, [1] * 32)]), [0, 1])

    def test_a_lesser_one_that_holds_no_lock_from_one_unit_to_the_next(self):
        for needs in ([0], [1], [255], [0, 0, 0], [1, 2, 1, 0, 1], [85, 170, 85]):
            self.assertEqual(all_most([job(5, 0, needs), job(9, 0, [255])]), [0, 0], needs)

    def test_a_lesser_one_that_holds_one_for_some_units(self):
        self.assertEqual(all_most([job(5, 0, [1, 1]), job(9, 0, [1])]), [0, 1])
        self.assertEqual(all_most([job(5, 0, [0, 1, 1, 1, 0]), job(9, 0, [1])]), [0, 2])
        self.assertEqual(all_most([job(9, 0, [128]), job(5, 0, [0, 0, 128, 128, 128, 128])]), [3, 0])

    def test_a_unit_begun_with_no_lock_held_ends_the_row(self):
        self.assertEqual(all_most([job(5, 0, [1, 1, 1, 0, 1, 1, 1, 1, 0, 1]), job(9, 0, [1])]), [0, 3])
        # The third unit needs a lock, but another one than the unit before it.
        self.assertEqual(all_most([job(5, 0, [1, 1, 2, 2, 2, 2]), job(9, 0, [3])]), [0, 3])
        self.assertEqual(all_most([job(5, 0, [1, 1, 1, 2, 2]), job(9, 0, [3])]), [0, 2])

    def test_the_lock_that_is_held_may_change(self):
        self.assertEqual(all_most([job(5, 0, [1, 3, 2, 6, 4, 132, 128]), job(9, 0, [255])]), [0, 6])

    def test_a_ceiling_below_the_priority_does_not_count(self):
        self.assertEqual(all_most([job(5, 0, [1, 1, 1]), job(9, 0, [2])]), [0, 0])
        self.assertEqual(all_most([job(5, 0, [1, 1, 1]), job(8, 0, [1]), job(9, 0, [2])]), [0, 2, 0])

    def test_a_ceiling_that_equals_it_counts(self):
        self.assertEqual(all_most([job(8, 0, [1, 1, 1]), job(9, 0, [1])]), [0, 2])
        self.assertEqual(all_most([job(999, 0, [1, 1, 1]), job(1000, 1000, [0, 1])]), [0, 2])

    def test_a_ceiling_above_it_counts_though_it_needs_no_such_lock(self):
        self.assertEqual(all_most([job(5, 0, [1, 1, 1]), job(8, 0, [0]), job(9, 0, [1])]), [0, 2, 2])

    def test_a_lock_with_a_ceiling_below_ends_the_row(self):
        low = job(5, 0, [1, 1, 3, 2, 2, 3, 1, 1, 1])
        self.assertEqual(all_most([low, job(9, 0, [1])]), [0, 3])
        self.assertEqual(all_most([low, job(9, 0, [3])]), [0, 8])

    def test_one_of_several_locks_with_a_great_ceiling_is_enough(self):
        self.assertEqual(all_most([job(5, 0, [255, 255, 255]), job(9, 0, [16])]), [0, 2])
        self.assertEqual(all_most([job(5, 0, [3, 3]), job(7, 0, [1]), job(9, 0, [2]), job(10, 0, [4])]), [0, 1, 1, 0])

    def test_the_greatest_over_several_rows_of_one(self):
        for needs in ([1] * 4 + [0] + [1] * 3 + [0] + [1] * 2, [1] * 2 + [0] + [1] * 4 + [0] + [1] * 3,
                      [1] * 2 + [0] + [1] * 3 + [0] + [1] * 4):
            self.assertEqual(all_most([job(5, 0, needs), job(9, 0, [1])]), [0, 3], needs)

    def test_the_greatest_over_several_lesser_ones(self):
        told = [job(1, 0, [1] * 3), job(2, 0, [1] * 5), job(3, 0, [1] * 4), job(4, 0, [1] * 9)]
        self.assertEqual(all_most(told), [0, 2, 4, 4])
        self.assertEqual(all_most(told[::-1]), [4, 4, 2, 0])

    def test_rows_of_two_jobs_are_not_put_together(self):
        self.assertEqual(all_most([job(1, 0, [1] * 3), job(2, 0, [1] * 3), job(3, 0, [1])]), [0, 2, 2])

    def test_the_most_units(self):
        told = [job(i + 1, 1000, [255] * 32) for i in range(8)]
        self.assertEqual(all_most(told), [0] + [31] * 7)

    def test_when_jobs_come_does_not_matter(self):
        for early, late in ((0, 1000), (1000, 0), (5, 5)):
            self.assertEqual(all_most([job(5, early, [1, 1, 1]), job(9, late, [1])]), [0, 2])

    def test_jobs_that_are_stuck_are_told_as_well(self):
        self.assertEqual(ask_after([job(5, 0, [1, 3]), job(6, 1, [2, 3])], [most(0), most(1), left(0)]), [0, 1, 2])

    def test_a_job_told_later_raises_a_ceiling(self):
        asked = [job(5, 0, [1, 1, 1]), job(8, 0, [0]), most(1), job(9, 0, [1]), most(1), most(2), most(0)]
        self.assertEqual(ask(asked), [1, 2, 0, 3, 2, 2, 0])

    def test_a_job_told_later_may_be_a_lesser_one(self):
        asked = [job(9, 0, [1]), most(0), job(5, 0, [1, 1]), most(0), job(6, 0, [1, 1, 1]), most(0), most(2)]
        self.assertEqual(ask(asked), [1, 0, 2, 1, 3, 2, 1])

    def test_begin_changes_it(self):
        told = [job(5, 0, [1, 1, 1]), job(9, 0, [1]), most(1), BEGIN]
        self.assertEqual(ask_after(told, [most(1), job(9, 0, [1]), most(0), most(1)]), [-1, 1, 0, -1])


class Refusals(unittest.TestCase):
    told = [job(5, 0, [1, 1, 1]), job(9, 0, [1])]

    def test_there_is_no_such_job(self):
        for number in (LEAST, -2, -1, 2, 8, GREATEST):
            self.assertEqual(ask_after(self.told, [most(number)]), [-1], number)

    def test_before_any_job_is_told(self):
        self.assertEqual(ask([most(0), most(-1), most(1)]), [-1, -1, -1])

    def test_the_last_of_eight_and_one_behind_it(self):
        told = [job(i + 1, 0, [1, 1]) for i in range(8)]
        self.assertEqual(ask_after(told, [most(7), most(8), most(-8)]), [1, -1, -1])

    def test_what_there_was_stays(self):
        told = self.told + [most(2), most(-1)]
        self.assertEqual(ask_after(told, [most(1), ceiling(0), runs(0, 0), job(6, 0, [0])]), [2, 9, 1, 3])


if __name__ == "__main__":
    unittest.main()
