"""chain_count, chain, single_chain_possible, min_chains, excesses."""

import unittest

from asking import (
    CHAIN_COUNT, CREATE, EXCESSES, LEAST, MIN_CHAINS, MOST, SINGLE_CHAIN_POSSIBLE,
    add_piece, ask, ask_last, chain, remove_piece, set_piece, start,
)

RING = [(0, 1), (1, 2), (2, 3), (3, 4), (4, 5), (5, 0)]


class NoPieces(unittest.TestCase):
    def test_the_empty_list_is_the_only_complete_chain(self):
        self.assertEqual(ask([CREATE, CHAIN_COUNT, chain(0), chain(1)]), [[0], [1], [0], [-2]])

    def test_no_chains_are_needed(self):
        self.assertEqual(ask([CREATE, MIN_CHAINS, SINGLE_CHAIN_POSSIBLE]), [[0], [0], [1]])

    def test_excesses(self):
        self.assertEqual(ask_last([CREATE, EXCESSES]), [6, 0, 0, 0, 0, 0, 0])

    def test_after_the_last_piece_is_removed(self):
        calls = start((0, 1), (2, 3)) + [remove_piece(0), remove_piece(0)]
        queries = [CHAIN_COUNT, chain(0), MIN_CHAINS, SINGLE_CHAIN_POSSIBLE, EXCESSES]
        expected = [[1], [0], [0], [1], [6, 0, 0, 0, 0, 0, 0]]
        self.assertEqual(ask(calls + queries)[len(calls):], expected)


class Chains(unittest.TestCase):
    def test_one_piece(self):
        for piece in ((0, 0), (0, 5), (5, 0), (5, 5)):
            calls = start(piece) + [CHAIN_COUNT, chain(0), chain(1)]
            self.assertEqual(ask(calls)[2:], [[1], [1, 0], [-2]])

    def test_pieces_cannot_be_turned(self):
        self.assertEqual(ask_last(start((0, 1), (0, 1)) + [CHAIN_COUNT]), [0])
        self.assertEqual(ask_last(start((0, 1), (2, 1)) + [CHAIN_COUNT]), [0])

    def test_the_order_is_by_the_pieces_numbers(self):
        calls = start((0, 1), (1, 0), (0, 0)) + [chain(0), chain(1), chain(2), chain(3)]
        self.assertEqual(ask(calls)[4:], [[3, 0, 1, 2], [3, 1, 2, 0], [3, 2, 0, 1], [-2]])

    def test_no_complete_chain(self):
        calls = start((0, 1), (2, 3)) + [CHAIN_COUNT, chain(0), chain(-1), chain(1)]
        self.assertEqual(ask(calls)[3:], [[0], [-2], [-2], [-2]])

    def test_seven_like_pieces(self):
        calls = start(*[(5, 5)] * 7) + [CHAIN_COUNT, chain(0), chain(1), chain(5038), chain(5039)]
        calls = calls + [chain(5040), chain(-1)]
        expected = [
            [5040],
            [7, 0, 1, 2, 3, 4, 5, 6],
            [7, 0, 1, 2, 3, 4, 6, 5],
            [7, 6, 5, 4, 3, 2, 0, 1],
            [7, 6, 5, 4, 3, 2, 1, 0],
            [-2],
            [-2],
        ]
        self.assertEqual(ask(calls)[8:], expected)

    def test_a_ring_begins_anywhere(self):
        calls = start(*RING) + [CHAIN_COUNT] + [chain(k) for k in range(7)]
        turned = [[6] + [(k + i) % 6 for i in range(6)] for k in range(6)]
        self.assertEqual(ask(calls)[7:], [[6]] + turned + [[-2]])

    def test_k_out_of_range(self):
        for k in (-1, 3, -3, -4, LEAST, MOST):
            calls = start((0, 1), (1, 0), (0, 0)) + [chain(k)]
            self.assertEqual(ask_last(calls), [-2])

    def test_the_numbers_after_remove_piece(self):
        calls = start((3, 3), (1, 2), (0, 1)) + [remove_piece(0), CHAIN_COUNT, chain(0)]
        self.assertEqual(ask(calls)[4:], [[2], [1], [2, 1, 0]])

    def test_after_set_piece(self):
        calls = start((0, 1), (2, 3)) + [CHAIN_COUNT, set_piece(0, 3, 1), CHAIN_COUNT, chain(0)]
        self.assertEqual(ask(calls)[3:], [[0], [0, 0, 1], [1], [2, 1, 0]])


class MinChains(unittest.TestCase):
    def answers_for(self, pieces):
        single, fewest = ask(start(*pieces) + [SINGLE_CHAIN_POSSIBLE, MIN_CHAINS])[-2:]
        return single + fewest

    def test_one_component(self):
        self.assertEqual(self.answers_for([(0, 1)]), [1, 1])
        self.assertEqual(self.answers_for([(0, 1), (1, 2)]), [1, 1])
        self.assertEqual(self.answers_for([(0, 1), (0, 2)]), [0, 2])
        self.assertEqual(self.answers_for([(1, 0), (2, 0), (3, 0)]), [0, 3])

    def test_all_excesses_0(self):
        self.assertEqual(self.answers_for([(4, 4)]), [1, 1])
        self.assertEqual(self.answers_for(RING), [1, 1])
        self.assertEqual(self.answers_for([(0, 0)] * 7), [1, 1])

    def test_a_component_with_excesses_0_beside_others(self):
        self.assertEqual(self.answers_for([(0, 0), (1, 1)]), [0, 2])
        self.assertEqual(self.answers_for([(0, 1), (1, 0), (2, 3)]), [0, 2])
        self.assertEqual(self.answers_for([(0, 1), (0, 1), (5, 5)]), [0, 3])

    def test_most_components_and_most_chains(self):
        self.assertEqual(self.answers_for([(mark, mark) for mark in range(6)]), [0, 6])
        self.assertEqual(self.answers_for([(0, 5)] * 7), [0, 7])

    def test_pieces_that_join_components_late(self):
        self.assertEqual(self.answers_for([(4, 5), (2, 3), (0, 1), (3, 4), (1, 2)]), [1, 1])
        self.assertEqual(self.answers_for([(5, 5), (0, 0), (0, 5)]), [1, 1])
        self.assertEqual(self.answers_for([(5, 4), (3, 2), (1, 0), (2, 5)]), [0, 2])

    def test_connected_against_the_direction_of_the_pieces(self):
        self.assertEqual(self.answers_for([(0, 2), (1, 2), (1, 3), (0, 3)]), [0, 4])
        self.assertEqual(self.answers_for([(0, 5), (4, 5)]), [0, 2])

    def test_follows_the_changes(self):
        calls = start((0, 1), (2, 3)) + [MIN_CHAINS, add_piece(1, 2), MIN_CHAINS]
        calls = calls + [set_piece(2, 0, 2), MIN_CHAINS, remove_piece(0), MIN_CHAINS]
        self.assertEqual(ask(calls)[3:], [[2], [2], [1], [0, 1, 2], [2], [2], [1]])


class Excesses(unittest.TestCase):
    def test_first_and_last_mark(self):
        self.assertEqual(ask_last(start((0, 5)) + [EXCESSES]), [6, 1, 0, 0, 0, 0, -1])
        self.assertEqual(ask_last(start((5, 0)) + [EXCESSES]), [6, -1, 0, 0, 0, 0, 1])

    def test_a_piece_with_the_same_mark_twice(self):
        self.assertEqual(ask_last(start((2, 2)) + [EXCESSES]), [6, 0, 0, 0, 0, 0, 0])

    def test_seven_pieces(self):
        self.assertEqual(ask_last(start(*[(3, 1)] * 7) + [EXCESSES]), [6, 0, -7, 0, 7, 0, 0])
        pieces = [(0, 1), (0, 2), (0, 3), (1, 4), (2, 4), (3, 4), (5, 5)]
        self.assertEqual(ask_last(start(*pieces) + [EXCESSES]), [6, 3, 0, 0, 0, -3, 0])

    def test_follows_the_changes(self):
        calls = start((0, 1)) + [set_piece(0, 4, 3), EXCESSES, remove_piece(0), EXCESSES]
        self.assertEqual(ask(calls)[3:], [[6, 0, 0, 0, -1, 1, 0], [0], [6, 0, 0, 0, 0, 0, 0]])


if __name__ == "__main__":
    unittest.main()
