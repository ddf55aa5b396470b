import unittest

from helper import BEGINS, asked, glass, glasses, goes


class BeginsTest(unittest.TestCase):
    def test_answers_0(self):
        self.assertEqual(asked(BEGINS), [[0]])

    def test_answers_0_behind_glasses_and_again(self):
        self.assertEqual(asked(*glasses(4, 7), BEGINS, BEGINS), [[0], [1], [0], [0]])

    def test_next_glass_is_number_0_again(self):
        self.assertEqual(asked(*glasses(4, 7), BEGINS, glass(5), glass(6)), [[0], [1], [0], [0], [1]])

    def test_no_glasses_are_there_then(self):
        self.assertEqual(asked(*glasses(4, 7), BEGINS, goes(), goes(1), goes(0))[3:], [[0], [-1], [-6, 0]])

    def test_earlier_glasses_are_forgotten(self):
        self.assertEqual(asked(*glasses(4, 7), BEGINS, glass(9), goes(1))[-1], [9, 9, 0])

    def test_makes_room_on_a_full_table(self):
        self.assertEqual(asked(*glasses(1, 2, 3, 4), BEGINS, *glasses(1, 2, 3, 4)),
                         [[0], [1], [2], [-5], [0], [0], [1], [2], [-5]])


if __name__ == "__main__":
    unittest.main()
