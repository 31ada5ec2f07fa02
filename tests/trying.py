"""What the calls should answer, found by trying everything; and lists of pieces to ask about."""

import random
from itertools import permutations, product


def gaps(pieces, order):
    """How many neighbours don't fit if the pieces are laid in this order."""
    return len([i for i, j in zip(order, order[1:]) if pieces[i][1] != pieces[j][0]])


def cut_at_gaps(pieces, order):
    """This order as one list for check_chains, with -1 wherever neighbours don't fit."""
    cut = list(order[:1])
    for i, j in zip(order, order[1:]):
        cut += [j] if pieces[i][1] == pieces[j][0] else [-1, j]
    return cut


def all_orders(pieces):
    return list(permutations(range(len(pieces))))


def orders_by_trying(pieces):
    """The complete chains, found by trying every order."""
    return [list(order) for order in all_orders(pieces) if gaps(pieces, order) == 0]


def closed_orders(pieces, orders):
    """Those of the complete chains that are circuits."""
    return [
        order for order in orders
        if order and order[0] == 0 and pieces[order[-1]][1] == pieces[0][0]
    ]


def min_chains_by_trying(pieces):
    """The fewest chains that hold all pieces: an order is cut at its gaps alone."""
    if not pieces:
        return 0
    return 1 + min(gaps(pieces, order) for order in all_orders(pieces))


def excesses_by_counting(pieces):
    lefts = [left for left, right in pieces]
    rights = [right for left, right in pieces]
    return [lefts.count(mark) - rights.count(mark) for mark in range(6)]


def marks_of(pieces):
    return sorted({mark for piece in pieces for mark in piece})


def reached_from(mark, steps):
    """All marks that one gets to from this one by these steps, itself among them."""
    reached = {mark}
    while True:
        more = reached | {right for left, right in steps if left in reached}
        if more == reached:
            return reached
        reached = more


def components_by_walking(pieces):
    both_ways = list(pieces) + [(right, left) for left, right in pieces]
    return sorted({min(reached_from(mark, both_ways)) for mark in marks_of(pieces)})


def trees_by_trying(pieces, target):
    """How many choices of a piece at each other mark lead to the target."""
    others = [mark for mark in marks_of(pieces) if mark != target]
    offered = [[piece for piece in pieces if piece[0] == mark] for mark in others]
    trees = 0
    for chosen in product(*offered):
        if all(target in reached_from(mark, chosen) for mark in others):
            trees += 1
    return trees


def check_by_words(pieces, chains):
    """What check_chains answers, word by word as the document says it."""
    if not chains or any(number < -1 or number >= len(pieces) for number in chains):
        return [-22]
    lists = [[]]
    for number in chains:
        if number == -1:
            lists.append([])
        else:
            lists[-1].append(number)
    valid = all(row and gaps(pieces, row) == 0 for row in lists)
    together = sorted(number for row in lists for number in row)
    return [1 if valid and together == list(range(len(pieces))) else 0, len(lists)]


def balanced_lists_of_pieces():
    """Lists of pieces with all excesses 0: closed walks, some of them two beside one another."""
    draw = random.Random(31)
    lists = []
    for size in range(1, 8):
        for turn in range(25):
            walk = [draw.randrange(1 + turn % 6) for piece in range(size)]
            pieces = list(zip(walk, walk[1:] + walk[:1]))
            if size < 6 and turn % 5 == 0:
                pieces += [(4, 5), (5, 4)]
            draw.shuffle(pieces)
            lists.append(pieces)
    return lists


def many_lists_of_pieces():
    """All lists of at most 2 pieces with four marks, and some of each larger size."""
    kinds = list(product(range(4), repeat=2))
    lists = [list(pieces) for size in range(3) for pieces in product(kinds, repeat=size)]
    draw = random.Random(20)
    for size, how_many in ((3, 120), (4, 120), (5, 80), (6, 30), (7, 12)):
        for turn in range(how_many):
            marks = 1 + turn % 6
            pieces = [(draw.randrange(marks), draw.randrange(marks)) for piece in range(size)]
            lists.append(pieces)
    return lists + balanced_lists_of_pieces()
