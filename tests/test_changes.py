"""create, add_piece, remove_piece, set_piece, and the time ahead of the first create."""

import unittest

from asking import (
    CHAIN_COUNT, CIRCUIT_COUNT, COMPONENTS, CREATE, DESCRIBE, EXCESSES, LEAST, MIN_CHAINS, MOST,
    NO_INDICES, NO_MARKS, SINGLE_CHAIN_POSSIBLE, add_piece, ask, ask_last, chain, chains_from,
    check_chains, circuit, evaluate_with_piece, pieces_after, remove_piece, set_piece, start,
    tree_count,
)

SEVEN = [(0, 1), (1, 2), (2, 3), (3, 4), (4, 5), (5, 0), (3, 3)]


class AheadOfCreate(unittest.TestCase):
    def test_every_other_call_is_refused(self):
        calls = [
            add_piece(0, 1), remove_piece(0), set_piece(0, 0, 1), CHAIN_COUNT, chain(0),
            SINGLE_CHAIN_POSSIBLE, MIN_CHAINS, EXCESSES, COMPONENTS, CIRCUIT_COUNT, circuit(0),
            tree_count(0), check_chains([-1]), check_chains([0]), chains_from(0),
            evaluate_with_piece(0, 1), DESCRIBE,
        ]
        for call in calls:
            self.assertEqual(ask([call]), [[-11]])
            self.assertEqual(ask([call, CREATE, DESCRIBE]), [[-11], [0], [0]])
        self.assertEqual(ask(calls), [[-11]] * len(calls))

    def test_checked_ahead_of_the_ranges(self):
        for wrong in NO_MARKS + NO_INDICES:
            calls = [
                add_piece(wrong, 0), add_piece(0, wrong), remove_piece(wrong), chain(wrong),
                set_piece(wrong, 0, 0), set_piece(0, wrong, 0), set_piece(0, 0, wrong),
                circuit(wrong), tree_count(wrong), chains_from(wrong), check_chains([wrong]),
                check_chains([0, -1, wrong]), check_chains([wrong] * 70),
                evaluate_with_piece(wrong, 0), evaluate_with_piece(0, wrong),
            ]
            self.assertEqual(ask(calls), [[-11]] * len(calls))

    def test_checked_ahead_of_the_empty_list(self):
        calls = [check_chains([]), CREATE, check_chains([]), DESCRIBE]
        self.assertEqual(ask(calls), [[-11], [0], [-22], [0]])

    def test_a_refused_call_leaves_nothing_behind(self):
        self.assertEqual(pieces_after([add_piece(0, 1), CREATE]), [])
        self.assertEqual(ask([add_piece(0, 1), CREATE, add_piece(2, 3)]), [[-11], [0], [0]])


class Create(unittest.TestCase):
    def test_without_pieces(self):
        self.assertEqual(ask([CREATE]), [[0]])
        self.assertEqual(pieces_after([CREATE]), [])

    def test_replaces_the_instance(self):
        calls = start(*SEVEN) + [CREATE]
        self.assertEqual(ask_last(calls), [0])
        self.assertEqual(pieces_after(calls), [])
        self.assertEqual(ask_last(calls + [add_piece(4, 4)]), [0])

    def test_twice_on_an_empty_instance(self):
        self.assertEqual(ask([CREATE, CREATE, CHAIN_COUNT]), [[0], [0], [1]])


class AddPiece(unittest.TestCase):
    def test_appends_and_answers_the_index(self):
        self.assertEqual(ask(start(*SEVEN)), [[0], [0], [1], [2], [3], [4], [5], [6]])
        self.assertEqual(pieces_after(start(*SEVEN)), SEVEN)

    def test_all_marks(self):
        for left in range(6):
            for right in range(6):
                self.assertEqual(ask(start((left, right))), [[0], [0]])
                self.assertEqual(pieces_after(start((left, right))), [(left, right)])

    def test_no_mark(self):
        for wrong in NO_MARKS:
            for left, right in ((wrong, 0), (0, wrong), (wrong, wrong), (wrong, 5), (5, wrong)):
                calls = start((1, 2)) + [add_piece(left, right)]
                self.assertEqual(ask_last(calls), [-22])
                self.assertEqual(pieces_after(calls), [(1, 2)])

    def test_an_eighth_piece(self):
        calls = start(*SEVEN) + [add_piece(0, 5)]
        self.assertEqual(ask_last(calls), [-28])
        self.assertEqual(pieces_after(calls), SEVEN)

    def test_the_marks_are_checked_ahead_of_the_number_of_pieces(self):
        for wrong in NO_MARKS:
            for left, right in ((wrong, 0), (0, wrong)):
                calls = start(*SEVEN) + [add_piece(left, right)]
                self.assertEqual(ask_last(calls), [-22])
                self.assertEqual(pieces_after(calls), SEVEN)

    def test_a_refused_call_takes_no_index(self):
        calls = [CREATE, add_piece(6, 0), add_piece(0, 0), add_piece(0, -1), add_piece(1, 1)]
        self.assertEqual(ask(calls), [[0], [-22], [0], [-22], [1]])

    def test_room_again_after_remove_piece(self):
        calls = start(*SEVEN) + [add_piece(0, 0), remove_piece(0), add_piece(0, 0), add_piece(0, 0)]
        self.assertEqual(ask(calls)[8:], [[-28], [6], [6], [-28]])
        self.assertEqual(pieces_after(calls), SEVEN[1:] + [(0, 0)])


class RemovePiece(unittest.TestCase):
    def test_each_index(self):
        for i in range(7):
            calls = start(*SEVEN) + [remove_piece(i)]
            self.assertEqual(ask_last(calls), [6])
            self.assertEqual(pieces_after(calls), SEVEN[:i] + SEVEN[i + 1:])

    def test_down_to_none(self):
        calls = start(*SEVEN) + [remove_piece(0)] * 8
        self.assertEqual(ask(calls)[8:], [[6], [5], [4], [3], [2], [1], [0], [-2]])
        self.assertEqual(pieces_after(calls), [])

    def test_the_indices_behind_it_move_down(self):
        calls = start((0, 1), (1, 2), (2, 3)) + [remove_piece(1), set_piece(1, 4, 4)]
        self.assertEqual(ask_last(calls), [0, 2, 3])
        self.assertEqual(pieces_after(calls), [(0, 1), (4, 4)])
        self.assertEqual(ask_last(calls + [add_piece(5, 5)]), [2])
        self.assertEqual(ask_last(calls + [set_piece(2, 0, 0)]), [-2])

    def test_one_of_two_like_pieces(self):
        calls = start((0, 0), (1, 1), (0, 0)) + [remove_piece(2)]
        self.assertEqual(pieces_after(calls), [(0, 0), (1, 1)])

    def test_no_such_piece(self):
        for pieces in ([], [(0, 1)], SEVEN):
            for wrong in (-1, len(pieces), -len(pieces) - 1, 7, LEAST, MOST):
                calls = start(*pieces) + [remove_piece(wrong)]
                self.assertEqual(ask_last(calls), [-2])
                self.assertEqual(pieces_after(calls), pieces)


class SetPiece(unittest.TestCase):
    def test_each_index(self):
        for i in range(7):
            calls = start(*SEVEN) + [set_piece(i, 5, 1)]
            self.assertEqual(ask_last(calls), [0, SEVEN[i][0], SEVEN[i][1]])
            self.assertEqual(pieces_after(calls), SEVEN[:i] + [(5, 1)] + SEVEN[i + 1:])

    def test_twice(self):
        calls = start((1, 2)) + [set_piece(0, 0, 5), set_piece(0, 5, 0), set_piece(0, 5, 0)]
        self.assertEqual(ask(calls)[2:], [[0, 1, 2], [0, 0, 5], [0, 5, 0]])

    def test_no_such_piece(self):
        for pieces in ([], [(0, 1)], SEVEN):
            for wrong in (-1, len(pieces), -len(pieces) - 1, 7, LEAST, MOST):
                calls = start(*pieces) + [set_piece(wrong, 2, 2)]
                self.assertEqual(ask_last(calls), [-2])
                self.assertEqual(pieces_after(calls), pieces)

    def test_no_mark(self):
        for wrong in NO_MARKS:
            for left, right in ((wrong, 0), (0, wrong), (wrong, wrong), (wrong, 5), (5, wrong)):
                for i in (0, 6):
                    calls = start(*SEVEN) + [set_piece(i, left, right)]
                    self.assertEqual(ask_last(calls), [-22])
                    self.assertEqual(pieces_after(calls), SEVEN)

    def test_the_piece_is_checked_ahead_of_the_marks(self):
        for wrong in NO_MARKS:
            for i in (-1, 2, LEAST, MOST):
                for left, right in ((wrong, 0), (0, wrong)):
                    calls = start((0, 1), (1, 0)) + [set_piece(i, left, right)]
                    self.assertEqual(ask_last(calls), [-2])
                    self.assertEqual(pieces_after(calls), [(0, 1), (1, 0)])


if __name__ == "__main__":
    unittest.main()
