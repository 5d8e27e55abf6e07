"""The form of the list that is handed in and of the one that is given back."""

import contextlib
import io
import unittest

from asking import LARGEST, Asking, thing
from losingnet.views import answers

ALL_CALLS = [
    0, 5, 1, 2, 3, 0,
    0, 6, 2, 2, 9, 1,
    2, 5, 1,
    2, 6, 99,
    3,
    4, 1,
    5, 0,
    6, 0,
    1, 5,
    3,
    1, 5,
    4, LARGEST,
    8, 1,
    9, 1,
    9, 0,
    10,
    11, 0,
    11, 1,
    12,
    4, 1,
    7, 0,
    7, 0,
    8, 2,
]
ALL_ANSWERS = [
    1, 1,
    1, 2,
    1, 0,
    1, 1,
    4, 1, 2, 4, 8,
    3, 1, 1, 1,
    1, 0,
    2, 1, 1,
    1, 1,
    4, 2, 2, 0, 1,
    1, -2,
    1, -2,
    5, 1, 6, 2, 2, 9,
    11, 1, 1, 2, 5, 1, 2, 3, 6, 2, 2, 9,
    1, -6,
    10, 2, 0, 2, 0, 0, 1, 2, 1, 1, 0,
    4, 3, 0, 0, 0,
    5, 3, 1, 0, 1, 5,
    9, 3, 1, 2, 0, 2, 0, 1, 1, 1,
    3, 1, 2, 1,
    1, 0,
    1, -2,
    1, -2,
]


class Answers(Asking):
    def test_every_call_with_its_whole_answer(self):
        self.assertEqual(answers(list(ALL_CALLS)), ALL_ANSWERS)

    def test_what_is_handed_in_is_not_changed(self):
        handed_in = list(ALL_CALLS)
        answers(handed_in)
        self.assertEqual(handed_in, ALL_CALLS)

    def test_nothing_is_kept(self):
        first = answers(ALL_CALLS)
        first.append(7)
        self.assertEqual(answers(ALL_CALLS), ALL_ANSWERS)
        self.assertEqual(answers([3]), [2, 1, 0])
        self.assertEqual(answers([3]), [2, 1, 0])
        self.assertEqual(answers([1, 6]), [1, -2])
        self.assertEqual(answers([12]), [3, 1, 0, 0])
        self.assertEqual(answers([10]), [2, 0, 0])
        self.assertEqual(answers([9, 0]), [1, -2])

    def test_a_new_list_is_given_back(self):
        self.assertIsNot(answers(ALL_CALLS), answers(ALL_CALLS))

    def test_a_refusal_is_one_number_alone(self):
        self.assertEqual(answers(thing(LARGEST)), [1, -1])
        self.assertEqual(answers([4, 0]), [1, -2])

    def test_a_list_of_one_call(self):
        self.assertEqual(answers([3]), [2, 1, 0])
        self.assertEqual(answers([2, 99, 99]), [1, 0])
        self.assertEqual(answers([7, 0]), [1, -2])
        self.assertEqual(answers([8, 0]), [1, -2])
        self.assertEqual(answers([9, 0]), [1, -2])
        self.assertEqual(answers([10]), [2, 0, 0])
        self.assertEqual(answers([11, 0]), [1, -2])
        self.assertEqual(answers([12]), [3, 1, 0, 0])

    def test_a_long_list_is_gone_through_by_loops(self):
        # More calls than a list has, and more than Python allows within one another.
        self.assertEqual(answers([12] * 5000), [3, 1, 0, 0] * 5000)

    def test_nothing_is_printed(self):
        said = io.StringIO()
        with contextlib.redirect_stdout(said), contextlib.redirect_stderr(said):
            answers(ALL_CALLS)
        self.assertEqual(said.getvalue(), "")

    def test_240_numbers_in_40_calls(self):
        calls = [number for n in range(40) for number in thing(n % 20, n)]
        self.assertEqual(len(calls), 240)
        self.assertEqual(answers(calls), [number for n in range(40) for number in (1, min(n + 1, 20))])


if __name__ == "__main__":
    unittest.main()
