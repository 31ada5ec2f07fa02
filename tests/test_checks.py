"""check_chains, chains_from, evaluate_with_piece, describe."""

import random
import unittest
from itertools import product

from asking import (
    CHAIN_COUNT, CREATE, DESCRIBE, LEAST, MIN_CHAINS, MOST, NO_MARKS, add_piece, ask, ask_about,
    ask_last, chains_from, check_chains, evaluate_with_piece, pieces_after, remove_piece,
    set_piece, start,
)
from trying import check_by_words, cut_at_gaps, many_lists_of_pieces

SEVEN = [(0, 1), (1, 2), (2, 3), (3, 4), (4, 5), (5, 0), (3, 3)]
THREE = [(0, 1), (1, 2), (5, 5)]


class CheckChains(unittest.TestCase):
    def check(self, pieces, chains, expected):
        self.assertEqual(ask_last(start(*pieces) + [check_chains(chains)]), expected)

    def test_chains_that_hold_all_pieces(self):
        self.check([(0, 1)], [0], [1, 1])
        self.check(THREE, [0, 1, -1, 2], [1, 2])
        self.check(THREE, [2, -1, 0, 1], [1, 2])
        self.check(THREE, [1, -1, 2, -1, 0], [1, 3])
        self.check(SEVEN, [5, 0, 1, 2, 6, 3, 4], [1, 1])
        self.check(SEVEN, [6, -1, 5, -1, 4, -1, 3, -1, 2, -1, 1, -1, 0], [1, 7])

    def test_no_pieces(self):
        self.check([], [-1], [0, 2])
        self.check([], [-1, -1], [0, 3])
        self.check([], [0], [-22])
        self.check([], [-1, 0], [-22])

    def test_a_separator_at_the_beginning(self):
        self.check(THREE, [-1, 0, 1, -1, 2], [0, 3])
        self.check([(0, 1)], [-1, 0], [0, 2])

    def test_a_separator_at_the_end(self):
        self.check(THREE, [0, 1, -1, 2, -1], [0, 3])
        self.check([(0, 1)], [0, -1], [0, 2])

    def test_two_separators_in_a_row(self):
        self.check(THREE, [0, 1, -1, -1, 2], [0, 3])
        self.check(SEVEN, [5, 0, 1, 2, 6, 3, -1, -1, 4], [0, 3])

    def test_separators_alone(self):
        self.check(THREE, [-1], [0, 2])
        self.check(THREE, [-1] * 70, [0, 71])

    def test_a_piece_twice(self):
        self.check(THREE, [0, 1, -1, 2, -1, 2], [0, 3])
        self.check([(0, 0), (0, 0)], [0, 1, 0], [0, 1])
        self.check([(0, 0), (0, 0)], [0, 0], [0, 1])
        self.check([(0, 0), (0, 0)], [0, 1, -1, 0], [0, 2])
        self.check([(0, 0)], [0, -1, 0], [0, 2])

    def test_a_piece_missing(self):
        self.check(THREE, [0, 1], [0, 1])
        self.check(THREE, [0, -1, 2], [0, 2])
        self.check([(0, 0), (0, 0)], [0], [0, 1])
        self.check([(0, 0), (0, 0)], [1], [0, 1])
        self.check(SEVEN, [5, 0, 1, 2, 3, 4], [0, 1])

    def test_a_piece_twice_in_the_place_of_another(self):
        self.check([(0, 0), (0, 0), (0, 0)], [0, 1, -1, 1], [0, 2])
        self.check([(0, 0), (0, 0), (0, 0)], [0, 1, -1, 0, 2], [0, 2])

    def test_pieces_that_do_not_fit(self):
        self.check(THREE, [0, 1, 2], [0, 1])
        self.check(THREE, [1, 0, -1, 2], [0, 2])
        self.check(THREE, [2, -1, 1, 0], [0, 2])
        self.check([(0, 1), (0, 1)], [0, 1], [0, 1])
        self.check([(0, 1), (2, 1)], [0, 1], [0, 1])
        self.check([(0, 1), (0, 2)], [0, 1], [0, 1])

    def test_seventy_numbers(self):
        self.check([(0, 0)], [0] * 70, [0, 1])
        self.check(SEVEN, [6] * 70, [0, 1])
        self.check(SEVEN, [0, -1] * 35, [0, 36])
        self.check(SEVEN, [5, 0, 1, 2, 6, 3, 4] + [-1] * 63, [0, 64])
        self.check(SEVEN, [6] * 69 + [7], [-22])
        self.check(SEVEN, [7] + [-1] * 69, [-22])

    def test_an_empty_list(self):
        for pieces in ([], [(0, 0)], THREE, SEVEN):
            self.check(pieces, [], [-22])

    def test_a_number_that_is_no_piece(self):
        for pieces in ([], [(0, 0)], THREE, SEVEN):
            size = len(pieces)
            for wrong in (-2, size, -size - 2, 7, LEAST, MOST):
                rest = list(range(size))
                self.check(pieces, [wrong], [-22])
                self.check(pieces, [wrong, -1] + rest, [-22])
                self.check(pieces, rest + [-1, wrong], [-22])
                self.check(pieces, [-1, wrong, -1], [-22])

    def test_a_removed_piece(self):
        calls = start(*THREE) + [remove_piece(0), check_chains([0, -1, 1]), check_chains([1, -1, 2])]
        self.assertEqual(ask(calls)[-2:], [[1, 2], [-22]])

    def test_several_in_one_request(self):
        calls = start(*THREE) + [check_chains([0, 1, -1, 2]), check_chains([]), check_chains([2])]
        self.assertEqual(ask(calls + [DESCRIBE])[4:], [[1, 2], [-22], [0, 1], [3, 0, 1, 1, 2, 5, 5]])

    def test_all_short_lists(self):
        for pieces in ([], [(0, 0)], [(0, 1), (1, 0)], [(0, 0), (0, 1)]):
            numbers = range(-2, len(pieces) + 1)
            rows = [row for length in range(5) for row in product(numbers, repeat=length)]
            found = ask_about(pieces, [check_chains(row) for row in rows])
            for row, answer in zip(rows, found):
                self.assertEqual(answer, check_by_words(pieces, row), (pieces, row))

    def test_many_lists_drawn(self):
        draw = random.Random(5)
        for pieces in many_lists_of_pieces():
            rows = []
            for turn in range(12):
                order = list(range(len(pieces)))
                draw.shuffle(order)
                row = cut_at_gaps(pieces, order)
                rows.append(row)
                place = draw.randrange(len(row) + 1)
                rows.append(row[:place] + [draw.randrange(-1, len(pieces) + 1)] + row[place:])
                rows.append(row[:place] + row[place + 1:])
            found = ask_about(pieces, [check_chains(row) for row in rows])
            for row, answer in zip(rows, found):
                self.assertEqual(answer, check_by_words(pieces, row), (pieces, row))


class ChainsFrom(unittest.TestCase):
    def counts(self, *pieces):
        found = ask_about(pieces, [chains_from(mark) for mark in range(6)])
        self.assertTrue(all(len(answer) == 1 for answer in found))
        return [answer[0] for answer in found]

    def test_no_pieces(self):
        self.assertEqual(self.counts(), [0, 0, 0, 0, 0, 0])

    def test_one_piece(self):
        self.assertEqual(self.counts((0, 0)), [1, 0, 0, 0, 0, 0])
        self.assertEqual(self.counts((0, 5)), [1, 0, 0, 0, 0, 0])
        self.assertEqual(self.counts((5, 0)), [0, 0, 0, 0, 0, 1])

    def test_the_first_piece_may_be_any(self):
        self.assertEqual(self.counts((0, 1), (1, 0), (0, 0)), [2, 1, 0, 0, 0, 0])
        self.assertEqual(self.counts(*SEVEN), [1, 1, 1, 2, 1, 1])

    def test_no_complete_chain(self):
        self.assertEqual(self.counts((0, 1), (2, 3)), [0, 0, 0, 0, 0, 0])

    def test_seven_like_pieces(self):
        self.assertEqual(self.counts(*[(3, 3)] * 7), [0, 0, 0, 5040, 0, 0])

    def test_no_mark(self):
        for pieces in ([], [(0, 1)], SEVEN):
            found = ask_about(pieces, [chains_from(wrong) for wrong in NO_MARKS])
            self.assertEqual(found, [[-22]] * len(NO_MARKS))


class EvaluateWithPiece(unittest.TestCase):
    def test_no_pieces(self):
        for piece in ((0, 0), (0, 5), (5, 0), (5, 5)):
            calls = [CREATE, evaluate_with_piece(*piece), DESCRIBE]
            self.assertEqual(ask(calls), [[0], [1, 1], [0]])

    def test_the_piece_counts_but_does_not_stay(self):
        calls = start((0, 1)) + [evaluate_with_piece(1, 0), evaluate_with_piece(2, 3)]
        calls += [evaluate_with_piece(0, 1), evaluate_with_piece(0, 0), DESCRIBE, MIN_CHAINS]
        expected = [[1, 2], [2, 0], [2, 0], [1, 1], [1, 0, 1], [1], [1]]
        self.assertEqual(ask(calls + [CHAIN_COUNT])[2:], expected)

    def test_the_seventh_piece(self):
        calls = start(*[(4, 4)] * 6) + [evaluate_with_piece(4, 4), evaluate_with_piece(5, 5)]
        self.assertEqual(ask(calls + [CHAIN_COUNT])[7:], [[1, 5040], [2, 0], [720]])

    def test_at_seven_pieces(self):
        calls = start(*SEVEN) + [evaluate_with_piece(0, 0)]
        self.assertEqual(ask_last(calls), [-28])
        self.assertEqual(pieces_after(calls), SEVEN)

    def test_no_mark(self):
        for pieces in ([], [(1, 2)], SEVEN[:6]):
            for wrong in NO_MARKS:
                for left, right in ((wrong, 0), (0, wrong), (wrong, wrong), (wrong, 5), (5, wrong)):
                    calls = start(*pieces) + [evaluate_with_piece(left, right)]
                    self.assertEqual(ask_last(calls), [-22])
                    self.assertEqual(pieces_after(calls), pieces)

    def test_the_marks_are_checked_ahead_of_the_number_of_pieces(self):
        for wrong in NO_MARKS:
            for left, right in ((wrong, 0), (0, wrong), (wrong, wrong)):
                calls = start(*SEVEN) + [evaluate_with_piece(left, right)]
                self.assertEqual(ask_last(calls), [-22])
                self.assertEqual(pieces_after(calls), SEVEN)

    def test_as_after_add_piece(self):
        for pieces in many_lists_of_pieces():
            if len(pieces) < 6:
                for piece in ((0, 1), (1, 0), (2, 2), (0, 5)):
                    calls = [evaluate_with_piece(*piece), add_piece(*piece), MIN_CHAINS, CHAIN_COUNT]
                    evaluated, index, fewest, count = ask_about(pieces, calls)
                    self.assertEqual(index, [len(pieces)])
                    self.assertEqual(evaluated, fewest + count)


class Describe(unittest.TestCase):
    def test_no_pieces(self):
        self.assertEqual(ask_last([CREATE, DESCRIBE]), [0])

    def test_one_piece(self):
        for left, right in product(range(6), repeat=2):
            self.assertEqual(ask_last(start((left, right)) + [DESCRIBE]), [1, left, right])

    def test_seven_pieces(self):
        expected = [7, 0, 1, 1, 2, 2, 3, 3, 4, 4, 5, 5, 0, 3, 3]
        self.assertEqual(ask_last(start(*SEVEN) + [DESCRIBE]), expected)

    def test_follows_the_changes(self):
        calls = start((0, 1), (2, 3)) + [DESCRIBE, remove_piece(0), DESCRIBE, set_piece(0, 5, 4)]
        calls += [DESCRIBE, add_piece(5, 0), DESCRIBE, CREATE, DESCRIBE]
        expected = [
            [2, 0, 1, 2, 3], [1], [1, 2, 3], [0, 2, 3], [1, 5, 4], [1], [2, 5, 4, 5, 0], [0], [0],
        ]
        self.assertEqual(ask(calls)[3:], expected)

    def test_tells_the_same_as_set_piece(self):
        for pieces in ([], [(0, 5)], THREE, SEVEN):
            calls = [DESCRIBE] + [set_piece(i, 0, 0) for i in range(len(pieces))]
            told, *old = ask_about(pieces, calls)
            self.assertEqual(told, [len(pieces)] + [mark for answer in old for mark in answer[1:]])


if __name__ == "__main__":
    unittest.main()
