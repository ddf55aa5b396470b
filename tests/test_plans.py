"""The search by itself, where no answer shows what it looked at."""

import unittest

from sandglasses.plans import soonest_over, stops_by_minute, told_times, ways_on
from slow import EveryPlan, ways

FEW_PLANS_TABLES = ((), (9,), (3,), (4, 7), (5, 8), (5, 5), (7, 9), (7, 8, 9), (6, 6, 9))


class WaysOnTest(unittest.TestCase):
    def test_turning_none_is_a_way_while_a_glass_runs(self):
        self.assertEqual(ways_on([4, 7], (0, 3)),
                         [(0, 3, (0, 0)), (1, 3, (1, 0)), (2, 4, (0, 0)), (3, 4, (0, 0))])

    def test_turning_none_is_no_way_when_all_have_run_out(self):
        self.assertEqual(ways_on([4, 7], (0, 0)), [(1, 4, (0, 0)), (2, 7, (0, 0)), (3, 4, (0, 3))])
        self.assertEqual(ways_on([], ()), [])

    def test_as_watched(self):
        for runs, above in (((4, 7), (1, 0)), ((2, 5, 9), (0, 3, 7)), ((6, 8, 9), (0, 0, 1)), ((5, 5, 5), (0, 5, 0))):
            self.assertEqual(ways_on(runs, above), ways(runs, above))

    def test_changes_nothing_handed_in(self):
        runs, above = [4, 7], [0, 3]
        ways_on(runs, above)
        self.assertEqual((runs, above), ([4, 7], [0, 3]))


class StopsTest(unittest.TestCase):
    def test_as_all_plans_one_by_one(self):
        for runs in FEW_PLANS_TABLES:
            plans = EveryPlan(runs).plans
            for minute, stops in enumerate(stops_by_minute(runs, 16)):
                wanted = {clock for plan, clocks in plans if clocks[-1] == minute for clock in clocks}
                self.assertEqual({bit for bit in range(18) if stops >> bit & 1}, wanted, (runs, minute))

    def test_other_latest_minutes(self):
        self.assertEqual(told_times([4, 7], 0), [0])
        self.assertEqual(told_times([4, 7], 7), [0, 4, 7])
        self.assertEqual(soonest_over([7, 9], 10, 16), None)
        self.assertEqual(soonest_over([7, 9], 10, 17), 17)


if __name__ == "__main__":
    unittest.main()
