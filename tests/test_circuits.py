"""components, circuit_count, circuit, tree_count."""

import unittest

from asking import (
    CIRCUIT_COUNT, COMPONENTS, CREATE, LEAST, MOST, NO_MARKS, add_piece, ask, ask_about, ask_last,
    circuit, remove_piece, set_piece, start, tree_count,
)

RING = [(0, 1), (1, 2), (2, 3), (3, 4), (4, 5), (5, 0)]


class Components(unittest.TestCase):
    def answer_for(self, *pieces):
        return ask_last(start(*pieces) + [COMPONENTS])

    def test_no_pieces(self):
        self.assertEqual(self.answer_for(), [0])

    def test_one_piece(self):
        self.assertEqual(self.answer_for((0, 0)), [1, 0])
        self.assertEqual(self.answer_for((5, 5)), [1, 5])
        self.assertEqual(self.answer_for((5, 0)), [1, 0])
        self.assertEqual(self.answer_for((4, 5)), [1, 4])

    def test_the_name_is_the_smallest_mark(self):
        self.assertEqual(self.answer_for((3, 2), (5, 3), (1, 5)), [1, 1])
        self.assertEqual(self.answer_for((5, 4), (3, 2), (1, 0)), [3, 0, 2, 4])

    def test_ascending_whatever_order_the_pieces_have(self):
        pieces = [(mark, mark) for mark in (5, 2, 0, 4, 3, 1)]
        self.assertEqual(self.answer_for(*pieces), [6, 0, 1, 2, 3, 4, 5])
        self.assertEqual(self.answer_for((4, 5), (1, 1)), [2, 1, 4])

    def test_joined_late_and_against_the_direction_of_the_pieces(self):
        self.assertEqual(self.answer_for((4, 5), (2, 3), (0, 1), (3, 4), (2, 1)), [1, 0])
        self.assertEqual(self.answer_for((0, 5), (4, 5), (3, 4), (3, 2)), [1, 0])
        self.assertEqual(self.answer_for((0, 2), (1, 2), (3, 5), (4, 5)), [2, 0, 3])

    def test_seven_pieces(self):
        self.assertEqual(self.answer_for(*[(3, 3)] * 7), [1, 3])
        self.assertEqual(self.answer_for(*RING, (2, 2)), [1, 0])

    def test_follows_the_changes(self):
        calls = start((0, 1), (2, 3)) + [COMPONENTS, add_piece(1, 2), COMPONENTS]
        calls += [remove_piece(0), COMPONENTS, set_piece(1, 4, 5), COMPONENTS]
        expected = [[2, 0, 2], [2], [1, 0], [2], [1, 1], [0, 1, 2], [2, 2, 4]]
        self.assertEqual(ask(calls)[3:], expected)


class Circuits(unittest.TestCase):
    def test_no_pieces(self):
        calls = [CREATE, CIRCUIT_COUNT, circuit(0), circuit(-1), circuit(1)]
        self.assertEqual(ask(calls)[1:], [[0, 0], [-2], [-2], [-2]])

    def test_one_piece_whose_ends_have_the_same_mark(self):
        for mark in range(6):
            calls = start((mark, mark)) + [CIRCUIT_COUNT, circuit(0), circuit(1)]
            self.assertEqual(ask(calls)[2:], [[1, 1], [1, 0], [-2]])

    def test_one_piece_whose_ends_differ(self):
        for piece in ((0, 5), (5, 0)):
            calls = start(piece) + [CIRCUIT_COUNT, circuit(0)]
            self.assertEqual(ask(calls)[2:], [[0, 0], [-2]])

    def test_an_excess_that_is_not_0(self):
        calls = start((0, 1), (1, 2), (0, 0)) + [CIRCUIT_COUNT, circuit(0)]
        self.assertEqual(ask(calls)[4:], [[0, 0], [-2]])
        calls = start(*RING[:5]) + [CIRCUIT_COUNT, circuit(0)]
        self.assertEqual(ask(calls)[6:], [[0, 0], [-2]])

    def test_several_components(self):
        calls = start((0, 1), (1, 0), (2, 2)) + [CIRCUIT_COUNT, circuit(0)]
        self.assertEqual(ask(calls)[4:], [[0, 0], [-2]])
        calls = start((5, 5), (0, 0)) + [CIRCUIT_COUNT, circuit(0)]
        self.assertEqual(ask(calls)[3:], [[0, 0], [-2]])

    def test_begins_with_piece_0_alone(self):
        calls = start(*RING) + [CIRCUIT_COUNT, circuit(0), circuit(1)]
        self.assertEqual(ask(calls)[7:], [[1, 1], [6, 0, 1, 2, 3, 4, 5], [-2]])
        calls = start((3, 0), (1, 3), (0, 1)) + [CIRCUIT_COUNT, circuit(0), circuit(1)]
        self.assertEqual(ask(calls)[4:], [[1, 1], [3, 0, 2, 1], [-2]])

    def test_the_order_is_by_the_pieces_numbers(self):
        calls = start((0, 1), (0, 1), (1, 0), (1, 0)) + [CIRCUIT_COUNT]
        calls += [circuit(0), circuit(1), circuit(2)]
        self.assertEqual(ask(calls)[5:], [[2, 2], [4, 0, 2, 1, 3], [4, 0, 3, 1, 2], [-2]])

    def test_seven_like_pieces(self):
        queries = [CIRCUIT_COUNT, circuit(0), circuit(1), circuit(718), circuit(719), circuit(720)]
        expected = [
            [720, 720],
            [7, 0, 1, 2, 3, 4, 5, 6],
            [7, 0, 1, 2, 3, 4, 6, 5],
            [7, 0, 6, 5, 4, 3, 1, 2],
            [7, 0, 6, 5, 4, 3, 2, 1],
            [-2],
        ]
        self.assertEqual(ask_about([(2, 2)] * 7, queries), expected)

    def test_several_trees_and_several_pieces_at_a_mark(self):
        # Three marks in both directions and once around: 3 trees, 2 pieces at each mark.
        pieces = [(0, 1), (1, 0), (1, 2), (2, 1), (2, 0), (0, 2)]
        queries = [CIRCUIT_COUNT, tree_count(0), tree_count(1), tree_count(2)]
        self.assertEqual(ask_about(pieces, queries), [[3, 3], [3], [3], [3]])
        queries = [CIRCUIT_COUNT, tree_count(0), tree_count(1)]
        pieces = [(0, 1), (1, 0), (0, 1), (1, 0), (0, 0), (1, 1)]
        self.assertEqual(ask_about(pieces, queries), [[8, 8], [2], [2]])

    def test_k_out_of_range(self):
        for k in (-1, 2, -2, -3, LEAST, MOST):
            calls = start((0, 0), (0, 0), (0, 0)) + [circuit(k)]
            self.assertEqual(ask_last(calls), [-2])

    def test_k_counts_the_circuits_and_not_the_complete_chains(self):
        calls = start((0, 1), (1, 0), (0, 0)) + [circuit(0), circuit(1), circuit(2)]
        self.assertEqual(ask(calls)[4:], [[3, 0, 1, 2], [-2], [-2]])

    def test_follows_the_changes(self):
        calls = start((0, 1), (1, 2)) + [CIRCUIT_COUNT, set_piece(1, 1, 0), CIRCUIT_COUNT]
        calls += [add_piece(1, 1), CIRCUIT_COUNT, circuit(0), remove_piece(1), CIRCUIT_COUNT]
        expected = [[0, 0], [0, 1, 2], [1, 1], [2], [1, 1], [3, 0, 2, 1], [2], [0, 0]]
        self.assertEqual(ask(calls)[3:], expected)


class Trees(unittest.TestCase):
    def test_a_piece_that_ends_where_it_begins(self):
        # The target alone is used: nothing is left to be chosen, and that is one tree.
        self.assertEqual(ask_about([(0, 0)], [tree_count(0)]), [[1]])
        self.assertEqual(ask_about([(5, 5)] * 7, [tree_count(5)]), [[1]])

    def test_one_piece_whose_ends_differ(self):
        self.assertEqual(ask_about([(0, 5)], [tree_count(5), tree_count(0)]), [[1], [0]])
        self.assertEqual(ask_about([(5, 0)], [tree_count(5), tree_count(0)]), [[0], [1]])

    def test_like_pieces_are_different_choices(self):
        queries = [tree_count(1), tree_count(0)]
        self.assertEqual(ask_about([(0, 1)] * 3, queries), [[3], [0]])
        self.assertEqual(ask_about([(0, 1), (0, 1), (0, 0), (1, 0)], queries), [[2], [1]])

    def test_the_chosen_pieces_must_not_go_round(self):
        pieces = [(0, 1), (1, 0), (1, 2)]
        self.assertEqual(ask_about(pieces, [tree_count(mark) for mark in range(3)]), [[0], [0], [1]])
        pieces = [(0, 1), (1, 0), (2, 2), (0, 2), (1, 2)]
        self.assertEqual(ask_about(pieces, [tree_count(mark) for mark in range(3)]), [[0], [0], [3]])

    def test_a_long_way(self):
        self.assertEqual(ask_about(RING, [tree_count(mark) for mark in range(6)]), [[1]] * 6)
        self.assertEqual(ask_about(RING[:5], [tree_count(5), tree_count(4)]), [[1], [0]])

    def test_several_components(self):
        pieces = [(0, 1), (1, 0), (3, 4), (4, 3)]
        self.assertEqual(ask_about(pieces, [tree_count(mark) for mark in (0, 1, 3, 4)]), [[0]] * 4)
        self.assertEqual(ask_about([(0, 0), (5, 5)], [tree_count(0), tree_count(5)]), [[0], [0]])

    def test_seven_pieces(self):
        pieces = [(0, 5), (0, 5), (1, 0), (1, 5), (1, 5), (2, 1), (2, 0)]
        self.assertEqual(ask_about(pieces, [tree_count(5), tree_count(0)]), [[12], [0]])

    def test_a_mark_that_is_not_used(self):
        pieces = [(1, 2), (2, 4)]
        expected = [[-6], [0], [0], [-6], [1], [-6]]
        self.assertEqual(ask_about(pieces, [tree_count(mark) for mark in range(6)]), expected)
        self.assertEqual(ask_about([], [tree_count(mark) for mark in range(6)]), [[-6]] * 6)

    def test_the_range_is_checked_ahead_of_the_use(self):
        for pieces in ([], [(1, 2)], RING + [(5, 5)]):
            found = ask_about(pieces, [tree_count(wrong) for wrong in NO_MARKS])
            self.assertEqual(found, [[-22]] * len(NO_MARKS))

    def test_follows_the_changes(self):
        calls = start((0, 1), (0, 1)) + [tree_count(1), set_piece(0, 2, 1), tree_count(1)]
        calls += [remove_piece(0), tree_count(2), tree_count(1)]
        self.assertEqual(ask(calls)[3:], [[2], [0, 0, 1], [1], [1], [-6], [1]])


if __name__ == "__main__":
    unittest.main()
