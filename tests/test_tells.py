import unittest

from helper import LARGEST, asked, glasses, goes, on, plan_on, tells


def told_on(runs, time):
    return on(runs, tells(time))


class TimeOf0Test(unittest.TestCase):
    def test_is_told_by_the_empty_plan(self):
        for runs in ([], [4], [4, 7], [4, 7, 9], [1, 1, 1]):
            with self.subTest(runs=runs):
                self.assertEqual(told_on(runs, 0), [0])


class PlanThatTellsTest(unittest.TestCase):
    def test_the_egg_of_nine_minutes(self):
        self.assertEqual(told_on([4, 7], 9), [4, 3, 1, 2, 2])

    def test_one_glass(self):
        self.assertEqual(told_on([9], 9), [1, 1])
        self.assertEqual(told_on([5], 15), [3, 1, 1, 1])
        self.assertEqual(told_on([8], 16), [2, 1, 1])
        self.assertEqual(told_on([1], 1), [1, 1])

    def test_as_many_steps_as_minutes(self):
        for time in range(17):
            with self.subTest(time=time):
                self.assertEqual(told_on([1], time), [time] + [1] * time)

    def test_two_glasses(self):
        self.assertEqual([told_on([4, 7], time) for time in range(17)],
                         [[0], [-6], [-6], [-6], [1, 1], [-6], [-6], [1, 2], [2, 1, 1], [4, 3, 1, 2, 2], [3, 3, 1, 1],
                          [2, 1, 2], [3, 1, 1, 1], [4, 3, 1, 3, 2], [2, 2, 2], [3, 1, 1, 2], [4, 1, 1, 1, 1]])

    def test_three_glasses(self):
        self.assertEqual(told_on([2, 5, 9], 9), [1, 4])
        self.assertEqual(told_on([2, 5, 9], 8), [3, 3, 1, 2])
        self.assertEqual(told_on([2, 5, 9], 16), [3, 1, 2, 4])
        self.assertEqual(told_on([6, 8, 9], 11), [4, 6, 1, 3, 2])

    def test_all_three_are_needed(self):
        self.assertEqual(told_on([6, 8, 9], 13), [3, 7, 4, 4])
        for runs in ([6, 8], [6, 9], [8, 9]):
            self.assertNotEqual(told_on(runs, 13)[:1], [3])

    def test_two_that_run_alike(self):
        self.assertEqual([told_on([5, 5], time) for time in (0, 4, 5, 6, 10, 15, 16)],
                         [[0], [-6], [1, 1], [-6], [2, 1, 1], [3, 1, 1, 1], [-6]])
        self.assertEqual(told_on([9, 4, 4], 4), [1, 2])
        self.assertEqual(told_on([9, 9, 9], 9), [1, 1])

    def test_the_plan_goes_so(self):
        for runs in ([4, 7], [3, 8], [2, 5, 9], [6, 8, 9], [1, 1, 1]):
            for time in range(17):
                found = told_on(runs, time)
                with self.subTest(runs=runs, time=time, found=found):
                    if found != [-6]:
                        self.assertEqual(found[0], len(found) - 1)
                        self.assertEqual(plan_on(runs, *found[1:])[0], time)


class FewestStepsTest(unittest.TestCase):
    def test_fewer_steps_go_ahead_of_lower_numbers(self):
        # 1, 1, 1 would tell 6 too, and its first step has a lower number.
        self.assertEqual(plan_on([2, 6], 1, 1, 1)[0], 6)
        self.assertEqual(told_on([2, 6], 6), [1, 2])
        self.assertEqual(plan_on([1, 2, 9], 1, 2, 2, 2, 2)[0], 9)
        self.assertEqual(told_on([1, 2, 9], 9), [1, 4])

    def test_steps_that_turn_none(self):
        # Waiting on for the second glass and the third takes steps of its own, which are counted.
        self.assertEqual(plan_on([4, 7], 3, 0)[0], 7)
        self.assertEqual(told_on([4, 7], 7), [1, 2])
        self.assertEqual(plan_on([2, 5, 9], 7, 0, 0)[0], 9)
        self.assertEqual(told_on([2, 5, 9], 9), [1, 4])

    def test_nothing_is_told_between_two_steps(self):
        self.assertEqual(told_on([4], 3), [-6])
        self.assertEqual(told_on([4], 5), [-6])

    def test_turns_one_that_still_runs(self):
        # 4 and 7, behind 8 minutes: 6 are above in the second; turned, 1 is.
        self.assertEqual(plan_on([4, 7], 3, 1, 2), [8, 4, 7, 8, 0, 6])
        self.assertEqual(told_on([4, 7], 9), [4, 3, 1, 2, 2])
        # 7 and 9: behind 9 minutes 5 are above in the first; turned, 2 are.
        self.assertEqual(plan_on([7, 9], 3, 1), [9, 7, 9, 5, 0])
        self.assertEqual(told_on([7, 9], 11), [3, 3, 1, 1])


class EarliestPlanTest(unittest.TestCase):
    def test_of_one_step(self):
        for step in range(1, 8):
            self.assertEqual(plan_on([5, 5, 5], step)[0], 5)
        self.assertEqual(told_on([5, 5, 5], 5), [1, 1])

    def test_differs_at_the_first_step(self):
        self.assertEqual(plan_on([4, 7], 2, 1)[0], 11)
        self.assertEqual(told_on([4, 7], 11), [2, 1, 2])
        self.assertEqual(told_on([7, 4], 11), [2, 1, 2])

    def test_differs_at_a_later_step(self):
        self.assertEqual(plan_on([4, 7], 1, 2, 1)[0], 15)
        self.assertEqual(told_on([4, 7], 15), [3, 1, 1, 2])
        self.assertEqual(told_on([7, 4], 15), [3, 1, 2, 2])

    def test_the_order_of_the_glasses_counts(self):
        self.assertEqual(told_on([7, 4], 9), [4, 3, 2, 1, 1])
        self.assertEqual(told_on([7, 4], 4), [1, 2])


class RefusalTest(unittest.TestCase):
    def test_times_above_16(self):
        for runs in ([], [1], [4, 7], [4, 7, 9]):
            for time in (17, 18, 32, 256, 65552, 2147483648, LARGEST):
                with self.subTest(runs=runs, time=time):
                    self.assertEqual(told_on(runs, time), [-1])

    def test_16_is_not_above_16(self):
        self.assertEqual(told_on([8], 16), [2, 1, 1])
        self.assertEqual(told_on([4, 7], 16), [4, 1, 1, 1, 1])

    def test_no_plan_tells_it(self):
        self.assertEqual([told_on([9], time) for time in range(1, 17) if time != 9], [[-6]] * 15)
        self.assertEqual(told_on([4, 7], 1), [-6])
        self.assertEqual(told_on([4, 7], 6), [-6])
        self.assertEqual(told_on([2, 4, 8], 15), [-6])
        self.assertEqual(told_on([9, 9, 9], 16), [-6])

    def test_no_glasses(self):
        self.assertEqual([told_on([], time) for time in range(1, 17)], [[-6]] * 16)

    def test_above_16_is_told_ahead_of_no_plan(self):
        self.assertEqual(told_on([], 17), [-1])
        self.assertEqual(told_on([9], 17), [-1])
        self.assertEqual(told_on([2, 4, 8], LARGEST), [-1])

    def test_above_16_is_refused_though_a_plan_tells_it(self):
        self.assertEqual(plan_on([9], 1, 1)[0], 18)
        self.assertEqual(told_on([9], 18), [-1])
        self.assertEqual(plan_on([1, 9], 1, 2, *[1] * 7)[0], 17)
        self.assertEqual(told_on([1, 9], 17), [-1])

    def test_changes_nothing(self):
        self.assertEqual(asked(*glasses(4, 7), tells(9), tells(17), tells(6), goes(3), tells(9))[2:],
                         [[4, 3, 1, 2, 2], [-1], [-6], [4, 4, 0, 3], [4, 3, 1, 2, 2]])


if __name__ == "__main__":
    unittest.main()
