"""chain_count, chain, single_chain_possible, min_chains, excesses."""

import random
import unittest
from itertools import permutations, product

from asking import (
    CHAIN_COUNT, CREATE, EXCESSES, LEAST, MIN_CHAINS, MOST, SINGLE_CHAIN_POSSIBLE,
    add_piece, ask, ask_last, chain, pieces_after, remove_piece, set_piece, start,
)

RING = [(0, 1), (1, 2), (2, 3), (3, 4), (4, 5), (5, 0)]


def gaps(pieces, order):
    """How many neighbours don't fit if the pieces are laid in this order."""
    return len([i for i, j in zip(order, order[1:]) if pieces[i][1] != pieces[j][0]])


def orders_by_trying(pieces):
    """The complete chains, found by trying every order."""
    return [list(order) for order in permutations(range(len(pieces))) if gaps(pieces, order) == 0]


def min_chains_by_trying(pieces):
    """The fewest chains that hold all pieces: an order is cut at its gaps alone."""
    if not pieces:
        return 0
    return 1 + min(gaps(pieces, order) for order in permutations(range(len(pieces))))


def excesses_by_counting(pieces):
    lefts = [left for left, right in pieces]
    rights = [right for left, right in pieces]
    return [lefts.count(mark) - rights.count(mark) for mark in range(6)]


def many_lists_of_pieces():
    """All lists of at most 2 pieces with four marks, and some of each larger size."""
    kinds = list(product(range(4), repeat=2))
    lists = [list(pieces) for size in range(3) for pieces in product(kinds, repeat=size)]
    draw = random.Random(20)
    for size, how_many in ((3, 120), (4, 120), (5, 80), (6, 30), (7, 12)):
        for turn in range(how_many):
            marks = 1 + turn % 6
            pieces = [(draw.randrange(marks), draw.randrange(marks)) for piece in range(size)]
            lists.append(pieces)
    return lists


class AgainstTrying(unittest.TestCase):
    def test_many_lists_of_pieces(self):
        for pieces in many_lists_of_pieces():
            with self.subTest(pieces=pieces):
                self.compare(pieces)

    def compare(self, pieces):
        orders = orders_by_trying(pieces)
        fewest = min_chains_by_trying(pieces)
        numbers = sorted(set(list(range(min(len(orders), 20))) + [len(orders) // 2, len(orders) - 1]))
        queries = [CHAIN_COUNT, SINGLE_CHAIN_POSSIBLE, MIN_CHAINS, EXCESSES, chain(len(orders)), chain(-1)]
        found = ask(start(*pieces) + queries + [chain(k) for k in numbers])[1 + len(pieces):]
        self.assertEqual(found[0], [len(orders)])
        self.assertEqual(found[1], [1 if fewest <= 1 else 0])
        self.assertEqual(found[2], [fewest])
        self.assertEqual(found[3], [6] + excesses_by_counting(pieces))
        self.assertEqual(found[4:6], [[-2], [-2]])
        for k, answer in zip(numbers, found[6:]):
            expected = [-2] if not 0 <= k < len(orders) else [len(pieces)] + orders[k]
            self.assertEqual(answer, expected)


class NoPieces(unittest.TestCase):
    def test_the_empty_list_is_the_only_complete_chain(self):
        self.assertEqual(ask([CREATE, CHAIN_COUNT, chain(0), chain(1)]), [[0], [1], [0], [-2]])

    def test_no_chains_are_needed(self):
        self.assertEqual(ask([CREATE, MIN_CHAINS, SINGLE_CHAIN_POSSIBLE]), [[0], [0], [1]])

    def test_excesses(self):
        self.assertEqual(ask_last([CREATE, EXCESSES]), [6, 0, 0, 0, 0, 0, 0])

    def test_after_the_last_piece_is_removed(self):
        calls = start((0, 1), (2, 3)) + [remove_piece(0), remove_piece(0)]
        queries = [CHAIN_COUNT, chain(0), MIN_CHAINS, SINGLE_CHAIN_POSSIBLE, EXCESSES]
        expected = [[1], [0], [0], [1], [6, 0, 0, 0, 0, 0, 0]]
        self.assertEqual(ask(calls + queries)[len(calls):], expected)


class Chains(unittest.TestCase):
    def test_one_piece(self):
        for piece in ((0, 0), (0, 5), (5, 0), (5, 5)):
            calls = start(piece) + [CHAIN_COUNT, chain(0), chain(1)]
            self.assertEqual(ask(calls)[2:], [[1], [1, 0], [-2]])

    def test_pieces_cannot_be_turned(self):
        self.assertEqual(ask_last(start((0, 1), (0, 1)) + [CHAIN_COUNT]), [0])
        self.assertEqual(ask_last(start((0, 1), (2, 1)) + [CHAIN_COUNT]), [0])

    def test_the_order_is_by_the_pieces_numbers(self):
        calls = start((0, 1), (1, 0), (0, 0)) + [chain(0), chain(1), chain(2), chain(3)]
        self.assertEqual(ask(calls)[4:], [[3, 0, 1, 2], [3, 1, 2, 0], [3, 2, 0, 1], [-2]])

    def test_no_complete_chain(self):
        calls = start((0, 1), (2, 3)) + [CHAIN_COUNT, chain(0), chain(-1), chain(1)]
        self.assertEqual(ask(calls)[3:], [[0], [-2], [-2], [-2]])

    def test_seven_like_pieces(self):
        calls = start(*[(5, 5)] * 7) + [CHAIN_COUNT, chain(0), chain(1), chain(5038), chain(5039)]
        calls = calls + [chain(5040), chain(-1)]
        expected = [
            [5040],
            [7, 0, 1, 2, 3, 4, 5, 6],
            [7, 0, 1, 2, 3, 4, 6, 5],
            [7, 6, 5, 4, 3, 2, 0, 1],
            [7, 6, 5, 4, 3, 2, 1, 0],
            [-2],
            [-2],
        ]
        self.assertEqual(ask(calls)[8:], expected)

    def test_a_ring_begins_anywhere(self):
        calls = start(*RING) + [CHAIN_COUNT] + [chain(k) for k in range(7)]
        turned = [[6] + [(k + i) % 6 for i in range(6)] for k in range(6)]
        self.assertEqual(ask(calls)[7:], [[6]] + turned + [[-2]])

    def test_k_out_of_range(self):
        for k in (-1, 3, -3, -4, LEAST, MOST):
            calls = start((0, 1), (1, 0), (0, 0)) + [chain(k)]
            self.assertEqual(ask_last(calls), [-2])

    def test_the_numbers_after_remove_piece(self):
        calls = start((3, 3), (1, 2), (0, 1)) + [remove_piece(0), CHAIN_COUNT, chain(0)]
        self.assertEqual(ask(calls)[4:], [[2], [1], [2, 1, 0]])

    def test_after_set_piece(self):
        calls = start((0, 1), (2, 3)) + [CHAIN_COUNT, set_piece(0, 3, 1), CHAIN_COUNT, chain(0)]
        self.assertEqual(ask(calls)[3:], [[0], [0, 0, 1], [1], [2, 1, 0]])


class MinChains(unittest.TestCase):
    def answers_for(self, pieces):
        single, fewest = ask(start(*pieces) + [SINGLE_CHAIN_POSSIBLE, MIN_CHAINS])[-2:]
        return single + fewest

    def test_one_component(self):
        self.assertEqual(self.answers_for([(0, 1)]), [1, 1])
        self.assertEqual(self.answers_for([(0, 1), (1, 2)]), [1, 1])
        self.assertEqual(self.answers_for([(0, 1), (0, 2)]), [0, 2])
        self.assertEqual(self.answers_for([(1, 0), (2, 0), (3, 0)]), [0, 3])

    def test_all_excesses_0(self):
        self.assertEqual(self.answers_for([(4, 4)]), [1, 1])
        self.assertEqual(self.answers_for(RING), [1, 1])
        self.assertEqual(self.answers_for([(0, 0)] * 7), [1, 1])

    def test_a_component_with_excesses_0_beside_others(self):
        self.assertEqual(self.answers_for([(0, 0), (1, 1)]), [0, 2])
        self.assertEqual(self.answers_for([(0, 1), (1, 0), (2, 3)]), [0, 2])
        self.assertEqual(self.answers_for([(0, 1), (0, 1), (5, 5)]), [0, 3])

    def test_most_components_and_most_chains(self):
        self.assertEqual(self.answers_for([(mark, mark) for mark in range(6)]), [0, 6])
        self.assertEqual(self.answers_for([(0, 5)] * 7), [0, 7])

    def test_pieces_that_join_components_late(self):
        self.assertEqual(self.answers_for([(4, 5), (2, 3), (0, 1), (3, 4), (1, 2)]), [1, 1])
        self.assertEqual(self.answers_for([(5, 5), (0, 0), (0, 5)]), [1, 1])
        self.assertEqual(self.answers_for([(5, 4), (3, 2), (1, 0), (2, 5)]), [0, 2])

    def test_connected_against_the_direction_of_the_pieces(self):
        self.assertEqual(self.answers_for([(0, 2), (1, 2), (1, 3), (0, 3)]), [0, 4])
        self.assertEqual(self.answers_for([(0, 5), (4, 5)]), [0, 2])

    def test_follows_the_changes(self):
        calls = start((0, 1), (2, 3)) + [MIN_CHAINS, add_piece(1, 2), MIN_CHAINS]
        calls = calls + [set_piece(2, 0, 2), MIN_CHAINS, remove_piece(0), MIN_CHAINS]
        self.assertEqual(ask(calls)[3:], [[2], [2], [1], [0, 1, 2], [2], [2], [1]])


class Excesses(unittest.TestCase):
    def test_first_and_last_mark(self):
        self.assertEqual(ask_last(start((0, 5)) + [EXCESSES]), [6, 1, 0, 0, 0, 0, -1])
        self.assertEqual(ask_last(start((5, 0)) + [EXCESSES]), [6, -1, 0, 0, 0, 0, 1])

    def test_a_piece_with_the_same_mark_twice(self):
        self.assertEqual(ask_last(start((2, 2)) + [EXCESSES]), [6, 0, 0, 0, 0, 0, 0])

    def test_seven_pieces(self):
        self.assertEqual(ask_last(start(*[(3, 1)] * 7) + [EXCESSES]), [6, 0, -7, 0, 7, 0, 0])
        pieces = [(0, 1), (0, 2), (0, 3), (1, 4), (2, 4), (3, 4), (5, 5)]
        self.assertEqual(ask_last(start(*pieces) + [EXCESSES]), [6, 3, 0, 0, 0, -3, 0])

    def test_follows_the_changes(self):
        calls = start((0, 1)) + [set_piece(0, 4, 3), EXCESSES, remove_piece(0), EXCESSES]
        self.assertEqual(ask(calls)[3:], [[6, 0, 0, 0, -1, 1, 0], [0], [6, 0, 0, 0, 0, 0, 0]])


class Unchanged(unittest.TestCase):
    """Point 6: no refused call and no call from number 4 on changes the instance."""

    LISTS = (
        [], [(0, 1)], [(0, 1), (1, 0), (0, 0)], [(0, 1), (2, 3)], RING + [(0, 0)], [(5, 5)] * 7,
    )

    def test_queries(self):
        queries = [CHAIN_COUNT, chain(0), SINGLE_CHAIN_POSSIBLE, MIN_CHAINS, EXCESSES]
        for pieces in self.LISTS:
            for query in queries:
                self.assertEqual(pieces_after(start(*pieces) + [query]), pieces)
            twice = ask(start(*pieces) + queries + queries)[1 + len(pieces):]
            self.assertEqual(twice[:5], twice[5:])

    def test_refused_calls(self):
        for pieces in self.LISTS:
            calls = [set_piece(i, 0, 6) for i in range(len(pieces))]
            for wrong in (-1, LEAST, MOST):
                calls += [remove_piece(wrong), set_piece(wrong, 0, 0), set_piece(0, wrong, 0)]
                calls += [add_piece(wrong, 0), add_piece(0, wrong), chain(wrong)]
            if len(pieces) == 7:
                calls.append(add_piece(0, 0))
            found = ask(start(*pieces) + calls)[1 + len(pieces):]
            for answer in found:
                self.assertIn(answer, ([-2], [-22], [-28]))
            self.assertEqual(pieces_after(start(*pieces) + calls), pieces)


if __name__ == "__main__":
    unittest.main()
