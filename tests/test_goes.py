import itertools
import unittest

from helper import LARGEST, asked, glasses, goes, plan_on
from slow import watched


class EmptyPlanTest(unittest.TestCase):
    def test_without_glasses(self):
        self.assertEqual(plan_on([]), [0])

    def test_with_glasses(self):
        self.assertEqual(plan_on([4]), [0, 0])
        self.assertEqual(plan_on([4, 7]), [0, 0, 0])
        self.assertEqual(plan_on([4, 7, 9]), [0, 0, 0, 0])


class PlanTest(unittest.TestCase):
    def test_the_egg_of_nine_minutes(self):
        self.assertEqual(plan_on([4, 7], 3, 1, 2, 2), [9, 4, 7, 8, 9, 0, 0])

    def test_turns_one_glass(self):
        self.assertEqual(plan_on([4, 7, 9], 1), [4, 4, 0, 0, 0])
        self.assertEqual(plan_on([4, 7, 9], 2), [7, 7, 0, 0, 0])
        self.assertEqual(plan_on([4, 7, 9], 4), [9, 9, 0, 0, 0])

    def test_turns_some_glasses(self):
        self.assertEqual(plan_on([4, 7, 9], 3), [4, 4, 0, 3, 0])
        self.assertEqual(plan_on([4, 7, 9], 5), [4, 4, 0, 0, 5])
        self.assertEqual(plan_on([4, 7, 9], 6), [7, 7, 0, 0, 2])

    def test_turns_all_glasses(self):
        self.assertEqual(plan_on([4, 7, 9], 7), [4, 4, 0, 3, 5])

    def test_turns_none_and_waits_on(self):
        self.assertEqual(plan_on([4, 7, 9], 7, 0, 0), [9, 4, 7, 9, 0, 0, 0])

    def test_turns_one_that_still_runs(self):
        self.assertEqual(plan_on([4, 7], 3, 2), [8, 4, 8, 0, 0])
        self.assertEqual(plan_on([3, 8], 3, 3), [6, 3, 6, 0, 0])
        self.assertEqual(plan_on([5, 6], 3, 3, 2), [16, 5, 10, 16, 0, 0])

    def test_turns_one_that_still_runs_beside_one_that_has_run_out(self):
        # 2 and 7: behind 2 minutes 5 are above in the second; turned, 2 are.
        self.assertEqual(plan_on([2, 7], 3, 2, 2), [11, 2, 4, 11, 0, 0])
        # 2, 7 and 9: behind 2 minutes 5 and 7 are above; the third alone is turned, 5 and 2 are.
        self.assertEqual(plan_on([2, 7, 9], 7, 4), [4, 2, 4, 0, 3, 0])

    def test_several_run_out_at_once(self):
        self.assertEqual(plan_on([5, 5], 3), [5, 5, 0, 0])
        self.assertEqual(plan_on([5, 5, 5], 7, 7), [10, 5, 10, 0, 0, 0])
        self.assertEqual(plan_on([5, 5, 8], 7), [5, 5, 0, 0, 3])
        self.assertEqual(plan_on([3, 6], 3, 1), [6, 3, 6, 0, 0])

    def test_only_glasses_with_sand_above_are_waited_for(self):
        self.assertEqual(plan_on([1, 9], 2), [9, 9, 0, 0])

    def test_twenty_steps(self):
        minutes = [9 * count for count in range(1, 21)]
        self.assertEqual(plan_on([9], *[1] * 20), [180] + minutes + [0])

    def test_begins_from_the_beginning_each_time(self):
        self.assertEqual(
            asked(*glasses(4, 7), goes(3), goes(0), goes(1), goes(3, 0, 0), goes(3, 4), goes(), goes(3))[2:],
            [[4, 4, 0, 3], [-6, 0], [4, 4, 0, 0], [-6, 2], [-1], [0, 0, 0], [4, 4, 0, 3]])


class MissingGlassTest(unittest.TestCase):
    def test_each_size_of_table(self):
        for runs in ([], [4], [4, 7], [4, 7, 9]):
            for step in (2 ** len(runs), 2 ** len(runs) + 1, 8, 16, 256, 65536, 2147483648, LARGEST - 7, LARGEST):
                with self.subTest(runs=runs, step=step):
                    self.assertEqual(plan_on(runs, step), [-1])

    def test_highest_step_that_is_there(self):
        self.assertEqual(plan_on([], 0), [-6, 0])
        self.assertEqual(plan_on([4], 1), [4, 4, 0])
        self.assertEqual(plan_on([4, 7], 3), [4, 4, 0, 3])
        self.assertEqual(plan_on([4, 7, 9], 7), [4, 4, 0, 3, 5])

    def test_far_behind_in_the_plan(self):
        for place in range(20):
            for step in (2, LARGEST):
                with self.subTest(place=place, step=step):
                    plan = [1] * 20
                    plan[place] = step
                    self.assertEqual(plan_on([4], *plan), [-1])

    def test_ahead_of_a_step_that_cannot_be_done(self):
        self.assertEqual(plan_on([], 0, 1), [-1])
        self.assertEqual(plan_on([4], 0, 2), [-1])
        self.assertEqual(plan_on([4], 2, 0), [-1])
        self.assertEqual(plan_on([4, 7, 9], *[0] * 19, LARGEST), [-1])


class CannotBeDoneTest(unittest.TestCase):
    def test_no_glasses(self):
        self.assertEqual(plan_on([], 0), [-6, 0])
        self.assertEqual(plan_on([], 0, 0), [-6, 0])

    def test_nothing_turned_at_the_beginning(self):
        self.assertEqual(plan_on([4, 7], 0, 3), [-6, 0])

    def test_all_have_run_out(self):
        self.assertEqual(plan_on([4], 1, 0), [-6, 1])
        self.assertEqual(plan_on([4, 7], 3, 0, 0), [-6, 2])
        self.assertEqual(plan_on([5, 5, 5], 7, 0, 7), [-6, 1])

    def test_first_of_several(self):
        self.assertEqual(plan_on([4], 1, 1, 0, 0, 1, 0), [-6, 2])

    def test_last_of_twenty(self):
        self.assertEqual(plan_on([4], *[1] * 19, 0), [-6, 19])

    def test_changes_nothing(self):
        self.assertEqual(asked(*glasses(4, 7), goes(3, 0, 0), goes(8), goes(3))[2:], [[-6, 2], [-1], [4, 4, 0, 3]])


class WatchedTest(unittest.TestCase):
    """Many plans at many tables, against the sand watched minute by minute."""

    def assert_as_watched(self, runs, plans):
        # A line has at most 40 calls, up to 3 of them for the glasses.
        for start in range(0, len(plans), 37):
            some = plans[start:start + 37]
            found = asked(*glasses(*runs), *[goes(*plan) for plan in some])[len(runs):]
            for plan, given in zip(some, found):
                self.assertEqual(given, watched(runs, plan), (runs, plan))

    def test_one_or_two_glasses(self):
        for size, steps in ((1, 6), (2, 4)):
            plans = list(itertools.product(range(2 ** size), repeat=steps))
            for runs in itertools.product(range(1, 10), repeat=size):
                self.assert_as_watched(runs, plans)

    def test_three_glasses(self):
        plans = list(itertools.product(range(8), repeat=3))
        for runs in ((1, 2, 3), (9, 8, 7), (4, 7, 9), (5, 5, 5), (3, 6, 9), (9, 1, 1), (2, 7, 5), (6, 4, 9)):
            self.assert_as_watched(runs, plans)

    def test_long_plans(self):
        for runs in itertools.product(range(1, 10), repeat=3):
            # The order of the steps differs from table to table.
            plans = [[(runs[0] * k + runs[1] * k * k + shift) % 8 for k in range(20)] for shift in range(8)]
            self.assert_as_watched(runs, plans)

    def test_steps_past_the_glasses(self):
        for runs in ((), (4,), (4, 7)):
            self.assert_as_watched(runs, list(itertools.product(range(5), repeat=3)))


if __name__ == "__main__":
    unittest.main()
