"""The points 1 to 6 of the requirements, over many lists of pieces, and a request of 60 calls."""

import unittest
from itertools import combinations

from asking import (
    CHAIN_COUNT, CIRCUIT_COUNT, COMPONENTS, CREATE, DESCRIBE, EXCESSES, LEAST, MIN_CHAINS, MOST,
    NO_MARKS, SINGLE_CHAIN_POSSIBLE, add_piece, ask, ask_about, chain, chains_from, check_chains,
    circuit, evaluate_with_piece, pieces_after, remove_piece, set_piece, start, tree_count,
)
from trying import (
    all_orders, balanced_lists_of_pieces, closed_orders, components_by_walking, cut_at_gaps,
    excesses_by_counting, gaps, many_lists_of_pieces, marks_of, min_chains_by_trying,
    orders_by_trying, trees_by_trying,
)

MANY = many_lists_of_pieces()
RING = [(0, 1), (1, 2), (2, 3), (3, 4), (4, 5), (5, 0)]


def with_cuts(order, places):
    """This order as one list for check_chains, cut ahead of each of these places."""
    cut = []
    for place, i in enumerate(order):
        cut += [-1, i] if place in places else [i]
    return cut


def all_arrangements(pieces):
    """Every way to lay all pieces in lists that are not empty, as lists for check_chains."""
    places = range(1, len(pieces))
    cuts = [chosen for size in range(len(pieces)) for chosen in combinations(places, size)]
    return [with_cuts(order, chosen) for order in all_orders(pieces) for chosen in cuts]


class AgainstTrying(unittest.TestCase):
    """What each query answers is what comes out when everything is tried."""

    def test_chains_and_circuits(self):
        for pieces in MANY:
            with self.subTest(pieces=pieces):
                orders = orders_by_trying(pieces)
                self.compare(pieces, orders, chain, CHAIN_COUNT, 1)
                self.compare(pieces, closed_orders(pieces, orders), circuit, CIRCUIT_COUNT, 2)

    def compare(self, pieces, rows, call, count, how_often):
        numbers = sorted({*range(min(len(rows), 20)), len(rows) // 2, len(rows) - 1, len(rows)})
        found = ask_about(pieces, [count] + [call(k) for k in numbers])
        self.assertEqual(found[0], [len(rows)] * how_often)
        for k, answer in zip(numbers, found[1:]):
            expected = [-2] if not 0 <= k < len(rows) else [len(pieces)] + rows[k]
            self.assertEqual(answer, expected)

    def test_chains_from(self):
        for pieces in MANY:
            begun = [pieces[order[0]][0] for order in orders_by_trying(pieces) if order]
            found = ask_about(pieces, [chains_from(mark) for mark in range(6)])
            self.assertEqual(found, [[begun.count(mark)] for mark in range(6)], pieces)

    def test_marks(self):
        for pieces in MANY:
            found = ask_about(pieces, [EXCESSES, COMPONENTS, DESCRIBE])
            names = components_by_walking(pieces)
            told = [len(pieces)] + [mark for piece in pieces for mark in piece]
            expected = [[6] + excesses_by_counting(pieces), [len(names)] + names, told]
            self.assertEqual(found, expected, pieces)

    def test_trees(self):
        for pieces in MANY:
            used = marks_of(pieces)
            found = ask_about(pieces, [tree_count(mark) for mark in range(6)])
            for mark, answer in enumerate(found):
                expected = [trees_by_trying(pieces, mark) if mark in used else -6]
                self.assertEqual(answer, expected, (pieces, mark))


class Points(unittest.TestCase):
    def test_1_min_chains_are_enough(self):
        for pieces in MANY:
            if pieces:
                order = min(all_orders(pieces), key=lambda tried: gaps(pieces, tried))
                found = ask_about(pieces, [MIN_CHAINS, check_chains(cut_at_gaps(pieces, order))])
                self.assertEqual(found[1], [1] + found[0], pieces)

    def test_1_not_in_fewer_than_min_chains(self):
        for pieces in MANY:
            fewest = min_chains_by_trying(pieces)
            found = ask_about(pieces, [MIN_CHAINS, SINGLE_CHAIN_POSSIBLE])
            self.assertEqual(found, [[fewest], [1 if fewest <= 1 else 0]], pieces)

    def test_1_as_check_chains_finds_the_arrangements(self):
        lists = [pieces for pieces in MANY if 1 <= len(pieces) <= 3]
        lists += [pieces for pieces in MANY if len(pieces) == 4][::8]
        for pieces in lists:
            rows = all_arrangements(pieces)
            fewest, *found = ask_about(pieces, [MIN_CHAINS] + [check_chains(row) for row in rows])
            self.assertEqual(fewest, [min(count for valid, count in found if valid)], pieces)

    def test_2_both_counts_of_circuits_are_equal(self):
        seen = set()
        for pieces in MANY:
            if pieces:
                listed, by_trees = ask_about(pieces, [CIRCUIT_COUNT])[0]
                self.assertEqual(listed, by_trees, pieces)
                seen.add(listed)
        self.assertTrue({0, 1, 2, 4, 6, 24, 120, 720} <= seen)

    def test_3_as_many_trees_to_each_used_mark(self):
        seen = set()
        for pieces in balanced_lists_of_pieces():
            excesses, names = ask_about(pieces, [EXCESSES, COMPONENTS])
            self.assertEqual(excesses, [6, 0, 0, 0, 0, 0, 0])
            if names[0] == 1:
                found = ask_about(pieces, [tree_count(mark) for mark in marks_of(pieces)])
                self.assertEqual(found, [found[0]] * len(found), pieces)
                self.assertGreater(found[0][0], 0)
                seen.add((len(found), found[0][0]))
        self.assertTrue({(1, 1), (2, 1), (2, 2), (3, 1), (4, 1)} <= seen)

    def test_4_every_complete_chain_exactly_once(self):
        lists = [pieces for pieces in MANY if len(pieces) <= 5] + [[(1, 1)] * 6]
        for pieces in lists:
            count = ask_about(pieces, [CHAIN_COUNT])[0][0]
            found = ask_about(pieces, [chain(k) for k in range(count + 1)])
            self.assertEqual(found.pop(), [-2])
            self.assertEqual(found, [[len(pieces)] + row for row in orders_by_trying(pieces)])
            self.assertEqual(found, sorted(found))
            self.assertEqual(len({tuple(answer) for answer in found}), count)

    def test_4_a_complete_chain_if_and_only_if_one_is_possible(self):
        for pieces in MANY:
            single, fewest, count, first = ask_about(
                pieces, [SINGLE_CHAIN_POSSIBLE, MIN_CHAINS, CHAIN_COUNT, chain(0)])
            self.assertEqual(single, [1 if count[0] > 0 else 0], pieces)
            self.assertEqual(single, [1 if fewest[0] <= 1 else 0], pieces)
            self.assertEqual(single, [1 if first != [-2] else 0], pieces)

    def test_5_the_excesses_add_up_to_0(self):
        for pieces in MANY:
            answer = ask_about(pieces, [EXCESSES])[0]
            self.assertEqual(len(answer), 7)
            self.assertEqual(sum(answer[1:]), 0, pieces)


class Unchanged(unittest.TestCase):
    """Point 6: no refused call and no call from number 4 on changes the instance."""

    LISTS = (
        [], [(0, 1)], [(0, 1), (1, 0), (0, 0)], [(0, 1), (2, 3)], RING, RING + [(0, 0)],
        [(5, 5)] * 7,
    )
    QUERIES = (
        CHAIN_COUNT, chain(0), SINGLE_CHAIN_POSSIBLE, MIN_CHAINS, EXCESSES, COMPONENTS,
        CIRCUIT_COUNT, circuit(0), tree_count(0), tree_count(1), check_chains([0]),
        check_chains([-1, 0, -1]), chains_from(0), chains_from(5), evaluate_with_piece(0, 1),
        evaluate_with_piece(5, 5), DESCRIBE,
    )

    def test_queries(self):
        for pieces in self.LISTS:
            for query in self.QUERIES:
                self.assertEqual(pieces_after(start(*pieces) + [query]), pieces)
            twice = ask(start(*pieces) + list(self.QUERIES * 2))[1 + len(pieces):]
            self.assertEqual(twice[:len(self.QUERIES)], twice[len(self.QUERIES):])

    def test_refused_calls(self):
        for pieces in self.LISTS:
            calls = [set_piece(i, 0, 6) for i in range(len(pieces))] + [check_chains([])]
            for wrong in (-1, LEAST, MOST):
                calls += [remove_piece(wrong), set_piece(wrong, 0, 0), set_piece(0, wrong, 0)]
                calls += [add_piece(wrong, 0), add_piece(0, wrong), chain(wrong), circuit(wrong)]
            for wrong in NO_MARKS:
                calls += [evaluate_with_piece(wrong, 0), evaluate_with_piece(0, wrong)]
                calls += [tree_count(wrong), chains_from(wrong)]
            calls += [check_chains([-1, wrong]) for wrong in (-2, len(pieces), LEAST, MOST)]
            if len(pieces) == 7:
                calls += [add_piece(0, 0), evaluate_with_piece(0, 0)]
            for answer in ask_about(pieces, calls):
                self.assertIn(answer, ([-2], [-22], [-28]))
            for call in calls:
                self.assertEqual(pieces_after(start(*pieces) + [call]), pieces)

    def test_a_query_does_not_change_what_another_answers(self):
        for pieces in self.LISTS:
            alone = [ask_about(pieces, [query])[0] for query in self.QUERIES]
            self.assertEqual(ask_about(pieces, self.QUERIES), alone)


class SixtyCalls(unittest.TestCase):
    """Requests of 60 calls on 7 pieces that all begin and end with the same mark."""

    EXPECTED = (
        (CHAIN_COUNT, [5040]), (chain(0), [7, 0, 1, 2, 3, 4, 5, 6]),
        (chain(5039), [7, 6, 5, 4, 3, 2, 1, 0]), (chain(5040), [-2]), (SINGLE_CHAIN_POSSIBLE, [1]),
        (MIN_CHAINS, [1]), (EXCESSES, [6, 0, 0, 0, 0, 0, 0]), (COMPONENTS, [1, 0]),
        (CIRCUIT_COUNT, [720, 720]), (circuit(719), [7, 0, 6, 5, 4, 3, 2, 1]), (circuit(720), [-2]),
        (tree_count(0), [1]), (tree_count(1), [-6]), (check_chains([3, 1, 2, 0, 4, 6, 5]), [1, 1]),
        (check_chains([3, -1] * 35), [0, 36]), (chains_from(0), [5040]), (chains_from(5), [0]),
        (evaluate_with_piece(0, 0), [-28]), (DESCRIBE, [7] + [0] * 14),
    )

    def test_all_queries_by_turns(self):
        turns = [self.EXPECTED[turn % len(self.EXPECTED)] for turn in range(52)]
        found = ask(start(*[(0, 0)] * 7) + [call for call, answer in turns])
        self.assertEqual(len(found), 60)
        self.assertEqual(found[8:], [answer for call, answer in turns])

    def test_one_query_over_and_over(self):
        for call, answer in ((CIRCUIT_COUNT, [720, 720]), (chains_from(0), [5040])):
            self.assertEqual(ask(start(*[(0, 0)] * 7) + [call] * 52)[8:], [answer] * 52)

    def test_two_requests_keep_nothing_of_each_other(self):
        calls = start(*[(0, 0)] * 7) + [call for call, answer in self.EXPECTED]
        first = ask(calls)
        self.assertEqual(ask([DESCRIBE, CREATE, DESCRIBE, CHAIN_COUNT]), [[-11], [0], [0], [1]])
        self.assertEqual(ask(calls), first)
        other = start((1, 2)) + [DESCRIBE, CIRCUIT_COUNT, COMPONENTS]
        self.assertEqual(ask(other)[2:], [[1, 1, 2], [0, 0], [1, 1]])


if __name__ == "__main__":
    unittest.main()
