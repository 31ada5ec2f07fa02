"""The rows of the document's examples, and how calls and answers are written in the lists."""

import unittest

from asking import LEAST, MOST
from brokenborder.pieces import answers


class Examples(unittest.TestCase):
    def test_all_rows_as_one_list(self):
        calls = [
            0,
            4,
            1, 0, 1,
            1, 1, 0,
            1, 0, 0,
            4,
            5, 1,
            10,
            11, 0,
            12, 0,
            12, 3,
            1, 2, 3,
            7,
            9,
            13, 5, 0, 1, 2, -1, 3,
            8,
            1, 6, 0,
        ]
        expected = [
            1, 0,
            1, 1,
            1, 0,
            1, 1,
            1, 2,
            1, 3,
            4, 3, 1, 2, 0,
            2, 1, 1,
            4, 3, 0, 1, 2,
            1, 1,
            1, -6,
            1, 3,
            1, 2,
            3, 2, 0, 2,
            2, 1, 2,
            7, 6, 0, 0, 1, -1, 0, 0,
            1, -22,
        ]
        self.assertEqual(answers(calls), expected)


class TheLists(unittest.TestCase):
    def test_one_call_alone(self):
        self.assertEqual(answers([0]), [1, 0])
        self.assertEqual(answers([3, 0, 0, 0]), [1, -11])

    def test_each_call_takes_as_many_numbers_as_it_has(self):
        calls = [0, 1, 4, 5, 3, 0, 2, 2, 6, 7, 5, 0, 8, 2, 0, 4]
        expected = [1, 0, 1, 0, 3, 0, 4, 5, 1, 1, 1, 1, 2, 1, 0, 7, 6, 0, 0, 0, 0, 0, 0, 1, 0, 1, 1]
        self.assertEqual(answers(calls), expected)

    def test_the_later_calls_take_as_many_numbers_as_they_have(self):
        calls = [0, 1, 4, 5, 9, 10, 11, 0, 12, 5, 13, 1, 0, 13, 2, 0, -1, 14, 4, 15, 5, 4, 16, 7]
        expected = [
            1, 0, 1, 0, 2, 1, 4, 2, 0, 0, 1, -2, 1, 1, 2, 1, 1, 2, 0, 2, 1, 1, 2, 1, 2, 3, 1, 4, 5,
            1, 1,
        ]
        self.assertEqual(answers(calls), expected)

    def test_a_row_is_as_long_as_the_number_ahead_of_it_tells(self):
        for row in ([], [0], [16, 16], [0] * 70, [MOST] * 70, [LEAST, 13, 1], [13, 0, 13, 0]):
            written = [13, len(row)] + row
            self.assertEqual(answers([0] + written + [16]), [1, 0, 1, -22, 1, 0])
            self.assertEqual(answers(written + [0, 16]), [1, -11, 1, 0, 1, 0])
        for length in (1, 2, 69, 70):
            written = [13, length] + [-1] * length
            self.assertEqual(answers([0] + written + [16]), [1, 0, 2, 0, length + 1, 1, 0])

    def test_a_refusal_is_one_number(self):
        calls = [0, 1, 6, 6, 2, 0, 3, 0, 0, 0, 5, 1, 11, 0, 12, 6, 12, 0, 13, 0, 14, 6, 15, 0, 6]
        expected = [
            1, 0, 1, -22, 1, -2, 1, -2, 1, -2, 1, -2, 1, -22, 1, -6, 1, -22, 1, -22, 1, -22,
        ]
        self.assertEqual(answers(calls), expected)

    def test_the_list_handed_in_stays_as_it_was(self):
        calls = [0, 1, 0, 1, 1, 1, 0, 3, 0, 2, 2, 4, 5, 0, 6, 7, 8, 2, 0, 1, 9, 9, 0]
        calls += [9, 10, 11, 0, 12, 1, 13, 3, 0, -1, 0, 13, 0, 14, 1, 15, 0, 1, 15, 6, 0, 16]
        kept = list(calls)
        given_back = answers(calls)
        self.assertEqual(calls, kept)
        self.assertIsNot(given_back, calls)
        given_back.clear()
        self.assertEqual(calls, kept)

    def test_nothing_is_kept_from_one_time_to_the_next(self):
        calls = [0, 1, 0, 1, 4, 5, 0, 8]
        first = answers(calls)
        self.assertEqual(answers([4]), [1, -11])
        self.assertEqual(answers(calls), first)
        first.clear()
        self.assertEqual(answers(calls), [1, 0, 1, 0, 1, 1, 2, 1, 0, 7, 6, 1, -1, 0, 0, 0, 0])


if __name__ == "__main__":
    unittest.main()
