import unittest

from helper import BEGINS, TIMES, asked, glass, glasses, goes, on, plan_on, tells


class TimesTest(unittest.TestCase):
    def test_no_glasses(self):
        self.assertEqual(on([], TIMES), [1, 0])
        self.assertEqual(asked(glass(4), BEGINS, TIMES)[-1], [1, 0])

    def test_one_glass(self):
        for minutes in range(1, 10):
            with self.subTest(minutes=minutes):
                told = list(range(0, 17, minutes))
                self.assertEqual(on([minutes], TIMES), [len(told)] + told)

    def test_two_glasses(self):
        self.assertEqual(on([4, 7], TIMES), [12, 0, 4, 7, 8, 9, 10, 11, 12, 13, 14, 15, 16])
        self.assertEqual(on([7, 9], TIMES), [8, 0, 7, 9, 11, 13, 14, 15, 16])
        self.assertEqual(on([6, 9], TIMES), [5, 0, 6, 9, 12, 15])

    def test_two_that_run_alike(self):
        self.assertEqual(on([5, 5], TIMES), [4, 0, 5, 10, 15])

    def test_three_glasses(self):
        self.assertEqual(on([6, 8, 9], TIMES), [11, 0, 6, 8, 9, 10, 11, 12, 13, 14, 15, 16])
        self.assertEqual(on([2, 5, 9], TIMES), [15, 0, 2, 4, 5, 6, 7, 8, 9, 10, 11, 12, 13, 14, 15, 16])
        self.assertEqual(on([2, 4, 8], TIMES), [9, 0, 2, 4, 6, 8, 10, 12, 14, 16])
        self.assertEqual(on([9, 9, 9], TIMES), [2, 0, 9])

    def test_the_least_first_whatever_the_order_of_the_glasses(self):
        self.assertEqual(on([9, 6], TIMES), [5, 0, 6, 9, 12, 15])
        self.assertEqual(on([9, 8, 6], TIMES), on([6, 8, 9], TIMES))

    def test_each_time_once(self):
        self.assertEqual(on([1, 1, 1], TIMES), [17] + list(range(17)))

    def test_16_is_looked_at_and_17_is_not(self):
        self.assertEqual(on([8], TIMES), [3, 0, 8, 16])
        self.assertEqual(plan_on([8, 9], 1, 2)[0], 17)
        self.assertEqual(on([8, 9], TIMES)[-1], 16)
        self.assertEqual(on([9], TIMES), [2, 0, 9])
        self.assertEqual(on([1], TIMES), [17] + list(range(17)))

    def test_are_those_that_tells_tells(self):
        for runs in ((4, 7), (3, 8), (6, 8, 9)):
            told = [time for time in range(17) if on(runs, tells(time)) != [-6]]
            self.assertEqual(on(runs, TIMES), [len(told)] + told)

    def test_changes_nothing(self):
        self.assertEqual(asked(*glasses(6, 9), TIMES, TIMES, goes(3), glass(9), TIMES)[2:],
                         [[5, 0, 6, 9, 12, 15]] * 2 + [[6, 6, 0, 3], [2], [5, 0, 6, 9, 12, 15]])


if __name__ == "__main__":
    unittest.main()
