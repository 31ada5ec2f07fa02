"""The rows of the document's examples, and how calls and answers are written in the lists."""

import unittest

from brokenborder.pieces import answers


class Examples(unittest.TestCase):
    def test_rows_of_the_calls_0_to_8(self):
        calls = [
            0,
            4,
            1, 0, 1,
            1, 1, 0,
            1, 0, 0,
            4,
            5, 1,
            1, 2, 3,
            7,
            8,
            1, 6, 0,
        ]
        expected = [
            1, 0,
            1, 1,
            1, 0,
            1, 1,
            1, 2,
            1, 3,
            4, 3, 1, 2, 0,
            1, 3,
            1, 2,
            7, 6, 0, 0, 1, -1, 0, 0,
            1, -22,
        ]
        self.assertEqual(answers(calls), expected)


class TheLists(unittest.TestCase):
    def test_one_call_alone(self):
        self.assertEqual(answers([0]), [1, 0])
        self.assertEqual(answers([3, 0, 0, 0]), [1, -11])

    def test_each_call_takes_as_many_numbers_as_it_has(self):
        calls = [0, 1, 4, 5, 3, 0, 2, 2, 6, 7, 5, 0, 8, 2, 0, 4]
        expected = [1, 0, 1, 0, 3, 0, 4, 5, 1, 1, 1, 1, 2, 1, 0, 7, 6, 0, 0, 0, 0, 0, 0, 1, 0, 1, 1]
        self.assertEqual(answers(calls), expected)

    def test_a_refusal_is_one_number(self):
        calls = [0, 1, 6, 6, 2, 0, 3, 0, 0, 0, 5, 1]
        self.assertEqual(answers(calls), [1, 0, 1, -22, 1, -2, 1, -2, 1, -2])

    def test_the_list_handed_in_stays_as_it_was(self):
        calls = [0, 1, 0, 1, 1, 1, 0, 3, 0, 2, 2, 4, 5, 0, 6, 7, 8, 2, 0, 1, 9, 9, 0]
        kept = list(calls)
        given_back = answers(calls)
        self.assertEqual(calls, kept)
        self.assertIsNot(given_back, calls)
        given_back.clear()
        self.assertEqual(calls, kept)

    def test_nothing_is_kept_from_one_time_to_the_next(self):
        calls = [0, 1, 0, 1, 4, 5, 0, 8]
        first = answers(calls)
        self.assertEqual(answers([4]), [1, -11])
        self.assertEqual(answers(calls), first)
        first.clear()
        self.assertEqual(answers(calls), [1, 0, 1, 0, 1, 1, 2, 1, 0, 7, 6, 1, -1, 0, 0, 0, 0])


if __name__ == "__main__":
    unittest.main()
