import unittest

from helper import LARGEST, asked, glass, glasses, goes

TOO_FEW_OR_MANY = (0, 10, 11, 256, 257, 2147483648, LARGEST)


class GlassTest(unittest.TestCase):
    def test_answers_its_number(self):
        self.assertEqual(asked(*glasses(4, 7, 4)), [[0], [1], [2]])

    def test_runs_1_to_9_minutes(self):
        for minutes in range(1, 10):
            with self.subTest(minutes=minutes):
                self.assertEqual(asked(glass(minutes), goes(1)), [[0], [minutes, minutes, 0]])

    def test_other_minutes_are_refused(self):
        for minutes in TOO_FEW_OR_MANY:
            with self.subTest(minutes=minutes):
                self.assertEqual(asked(glass(minutes)), [[-1]])

    def test_fourth_is_refused(self):
        for minutes in range(1, 10):
            with self.subTest(minutes=minutes):
                self.assertEqual(asked(*glasses(1, 2, 3, minutes, minutes))[2:], [[2], [-5], [-5]])

    def test_wrong_minutes_are_told_ahead_of_a_full_table(self):
        for minutes in TOO_FEW_OR_MANY:
            with self.subTest(minutes=minutes):
                self.assertEqual(asked(*glasses(1, 2, 3, minutes))[-1], [-1])

    def test_wrong_minutes_change_nothing(self):
        for minutes in TOO_FEW_OR_MANY:
            with self.subTest(minutes=minutes):
                self.assertEqual(asked(*glasses(minutes, 4, minutes, 7, minutes), goes(3)),
                                 [[-1], [0], [-1], [1], [-1], [4, 4, 0, 3]])

    def test_refusal_on_a_full_table_changes_nothing(self):
        self.assertEqual(asked(*glasses(2, 5, 9, 1, 10), goes(7), goes(8)),
                         [[0], [1], [2], [-5], [-1], [2, 2, 0, 3, 7], [-1]])

    def test_can_be_added_between_plans(self):
        self.assertEqual(asked(glass(4), goes(1), goes(3), glass(7), goes(1), goes(3)),
                         [[0], [4, 4, 0], [-1], [1], [4, 4, 0, 0], [4, 4, 0, 3]])


if __name__ == "__main__":
    unittest.main()
