"""How calls are handed in and answers given back, and what stands behind it."""

import contextlib
import io
import unittest

from helper import BEGINS, LARGEST, TIMES, glass, goes, line, soonest, tells
from sandglasses.table import answers

A_LINE = line([glass(4), glass(0), glass(7), goes(3, 1, 2, 2), goes(), goes(8), goes(3, 0, 0), BEGINS, goes(),
               glass(LARGEST), goes(1), glass(6), glass(9), tells(12), tells(3), TIMES, soonest(3), tells(17),
               soonest(1), goes(3)])
ITS_ANSWERS = [1, 0, 1, -1, 1, 1, 7, 9, 4, 7, 8, 9, 0, 0, 3, 0, 0, 0, 1, -1, 2, -6, 2, 1, 0, 1, 0, 1, -1, 1, -1,
               1, 0, 1, 1, 3, 2, 1, 1, 1, -6, 6, 5, 0, 6, 9, 12, 15, 1, 9, 1, -1, 1, -6, 4, 6, 6, 0, 3]


def refuse(*ignored):
    raise AssertionError("the list that was handed in was to be changed")


class Unchangeable(list):
    """Tells a change on the spot, also one that would be taken back."""

    __setitem__ = __delitem__ = __iadd__ = __imul__ = refuse
    append = clear = extend = insert = pop = remove = reverse = sort = refuse


class AnswersTest(unittest.TestCase):
    def test_one_call(self):
        self.assertEqual(answers([0, 0, 0]), [1, 0])
        self.assertEqual(answers([1, 1, 4, 0]), [1, 0])
        self.assertEqual(answers([1, 1, 10, 0]), [1, -1])
        self.assertEqual(answers([2, 0, 0]), [1, 0])
        self.assertEqual(answers([2, 1, 0, 0]), [2, -6, 0])
        self.assertEqual(answers([2, 1, 1, 0]), [1, -1])
        self.assertEqual(answers([3, 1, 0, 0]), [1, 0])
        self.assertEqual(answers([3, 1, 1, 0]), [1, -6])
        self.assertEqual(answers([3, 1, 17, 0]), [1, -1])
        self.assertEqual(answers([4, 0, 0]), [2, 1, 0])
        self.assertEqual(answers([5, 1, 0, 0]), [1, 0])
        self.assertEqual(answers([5, 1, 1, 0]), [1, -6])
        self.assertEqual(answers([5, 1, 17, 0]), [1, -1])

    def test_several_calls(self):
        self.assertEqual(answers([1, 1, 4, 0, 1, 1, 7, 0, 2, 2, 3, 1, 0]), [1, 0, 1, 1, 5, 7, 4, 7, 1, 0])
        self.assertEqual(answers([1, 1, 4, 0, 1, 1, 7, 0, 3, 1, 9, 0, 5, 1, 3, 0]), [1, 0, 1, 1, 5, 4, 3, 1, 2, 2, 1, 7])
        self.assertEqual(answers([1, 1, 9, 0, 4, 0, 0, 1, 1, 6, 0, 4, 0, 0]),
                         [1, 0, 3, 2, 0, 9, 1, 1, 6, 5, 0, 6, 9, 12, 15])
        self.assertEqual(answers(A_LINE), ITS_ANSWERS)

    def test_forty_calls(self):
        plan = goes(*[3, 1] * 10)
        calls = [glass(1), glass(1)] + [plan] * 38
        behind = list(range(1, 21))
        self.assertEqual(answers(line(calls)), [1, 0, 1, 1] + ([23, 20] + behind + [0, 0]) * 38)

    def test_steps_that_look_like_calls(self):
        self.assertEqual(answers(line([glass(2), glass(2), goes(2, 1, 1, 1, 0, 0), goes(2)])),
                         [1, 0, 1, 1, 2, -6, 4, 4, 2, 2, 0, 0])

    def test_gives_back_a_list_of_whole_numbers(self):
        given = answers(A_LINE)
        self.assertIs(type(given), list)
        self.assertEqual({type(number) for number in given}, {int})


class HandedInTest(unittest.TestCase):
    def test_is_as_it_was(self):
        calls = list(A_LINE)
        answers(calls)
        self.assertEqual(calls, A_LINE)

    def test_is_not_changed_for_a_while_either(self):
        self.assertEqual(answers(Unchangeable(A_LINE)), ITS_ANSWERS)


class NothingKeptTest(unittest.TestCase):
    def test_same_list_twice(self):
        calls = list(A_LINE)
        self.assertEqual(answers(calls), answers(calls))

    def test_table_is_new_each_time(self):
        for time in range(5):
            self.assertEqual(answers(glass(4)), [1, 0])
        self.assertEqual(answers(goes()), [1, 0])
        self.assertEqual(answers(goes(1)), [1, -1])

    def test_changing_an_answer_changes_no_later_one(self):
        given = answers(A_LINE)
        given.clear()
        self.assertEqual(answers(A_LINE), ITS_ANSWERS)


class SilenceTest(unittest.TestCase):
    def test_prints_nothing(self):
        out, errors = io.StringIO(), io.StringIO()
        with contextlib.redirect_stdout(out), contextlib.redirect_stderr(errors):
            answers(A_LINE)
        self.assertEqual((out.getvalue(), errors.getvalue()), ("", ""))


if __name__ == "__main__":
    unittest.main()
