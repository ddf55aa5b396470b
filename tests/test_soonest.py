import unittest

from helper import LARGEST, asked, glasses, goes, on, plan_on, soonest, tells


def soonest_on(runs, time):
    return on(runs, soonest(time))


class TimeOf0Test(unittest.TestCase):
    def test_is_over_at_once(self):
        for runs in ([], [4], [9], [4, 7], [4, 7, 9], [1, 1, 1]):
            with self.subTest(runs=runs):
                self.assertEqual(soonest_on(runs, 0), [0])


class FromTheBeginningTest(unittest.TestCase):
    def test_a_time_that_a_plan_tells(self):
        for runs, times in (([4], (4, 8, 12, 16)), ([4, 7], (4, 7, 8, 9, 10, 11, 12, 13, 14, 15, 16)),
                            ([6, 8, 9], (6, 8, 9, 10, 11, 12, 13, 14, 15, 16)), ([1], range(17))):
            for time in times:
                with self.subTest(runs=runs, time=time):
                    self.assertEqual(soonest_on(runs, time), [time])


class BehindAStepTest(unittest.TestCase):
    def test_between_two_that_run_out(self):
        self.assertEqual(plan_on([4, 7], 3, 0)[1:3], [4, 7])
        self.assertEqual(soonest_on([4, 7], 3), [7])
        self.assertEqual(soonest_on([6, 9], 3), [9])
        self.assertEqual(soonest_on([2, 3], 1), [3])

    def test_begun_behind_the_first_step_of_several(self):
        # 4 and 7: begun when 4 have gone by, behind the steps at 7 and 8, over at 9.
        self.assertEqual(plan_on([4, 7], 3, 1, 2, 2)[1:5], [4, 7, 8, 9])
        self.assertEqual(soonest_on([4, 7], 5), [9])
        self.assertEqual(soonest_on([4, 7], 1), [8])
        self.assertEqual(soonest_on([4, 7], 2), [9])
        self.assertEqual(soonest_on([4, 7], 6), [10])

    def test_begun_at_the_soonest_of_several_steps(self):
        # 5 and 7: 2 minutes lie between 5 and 7, and between 7 and 9.
        self.assertEqual(plan_on([5, 7], 3, 1, 1)[1:4], [5, 7, 9])
        self.assertEqual(soonest_on([5, 7], 2), [7])

    def test_a_time_that_no_plan_tells_from_the_beginning(self):
        self.assertEqual(on([3, 8], tells(5)), [-6])
        self.assertEqual(soonest_on([3, 8], 5), [8])
        self.assertEqual(soonest_on([3, 8], 7), [10])
        self.assertEqual(soonest_on([5, 7], 8), [13])

    def test_three_glasses(self):
        self.assertEqual([soonest_on([6, 8, 9], time) for time in range(17)],
                         [[0], [9], [8], [9], [10], [11], [6], [13], [8], [9], [10], [11], [12], [13], [14], [15], [16]])

    def test_the_order_of_the_glasses_does_not_count(self):
        for time in range(17):
            self.assertEqual(soonest_on([6, 8, 9], time), soonest_on([9, 6, 8], time))


class Behind16MinutesTest(unittest.TestCase):
    def test_only_then(self):
        self.assertEqual(plan_on([5, 8], 3, 1, 2, 1, 0)[1:6], [5, 8, 10, 15, 16])
        self.assertEqual(soonest_on([5, 8], 1), [16])
        self.assertEqual(soonest_on([8, 5], 1), [16])

    def test_from_the_beginning(self):
        self.assertEqual(soonest_on([8], 16), [16])
        self.assertEqual(soonest_on([1], 16), [16])
        self.assertEqual(soonest_on([4, 7], 16), [16])


class RefusalTest(unittest.TestCase):
    def test_times_above_16(self):
        for runs in ([], [1], [4, 7], [4, 7, 9]):
            for time in (17, 18, 32, 256, 65552, 2147483648, LARGEST):
                with self.subTest(runs=runs, time=time):
                    self.assertEqual(soonest_on(runs, time), [-1])

    def test_no_plan_has_it_over(self):
        self.assertEqual([soonest_on([9], time) for time in range(1, 17) if time != 9], [[-6]] * 15)
        self.assertEqual(soonest_on([6, 9], 1), [-6])
        self.assertEqual(soonest_on([5, 5], 16), [-6])
        self.assertEqual(soonest_on([9, 9, 9], 1), [-6])

    def test_over_only_behind_more_than_16(self):
        # From 7 to 17 it's 10 minutes, and no plan has so many over sooner.
        self.assertEqual(plan_on([7, 9], 3, 1, 3, 3, 3, 2)[1:7], [7, 9, 11, 13, 15, 17])
        self.assertEqual(soonest_on([7, 9], 10), [-6])
        self.assertEqual([soonest_on([7, 9], time) for time in (1, 3, 12)], [[-6]] * 3)

    def test_no_glasses(self):
        self.assertEqual([soonest_on([], time) for time in range(1, 17)], [[-6]] * 16)

    def test_above_16_is_told_ahead_of_no_plan(self):
        self.assertEqual(soonest_on([], 17), [-1])
        self.assertEqual(soonest_on([9], 17), [-1])
        self.assertEqual(soonest_on([9, 9, 9], LARGEST), [-1])

    def test_changes_nothing(self):
        self.assertEqual(asked(*glasses(4, 7), soonest(3), soonest(17), goes(3))[2:], [[7], [-1], [4, 4, 0, 3]])
        self.assertEqual(asked(*glasses(6, 9), soonest(1), goes(3), soonest(3))[2:], [[-6], [6, 6, 0, 3], [9]])


if __name__ == "__main__":
    unittest.main()
