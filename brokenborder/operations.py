"""The calls on an instance: each gives the list of the numbers that it answers.

The instance is its list of pieces, each a pair of marks: left, right.
"""

from brokenborder.chains import complete_chains
from brokenborder.marks import excess_of_each_mark, fewest_chains, is_mark

MOST_PIECES = 7

NOT_THERE = -2
OUT_OF_RANGE = -22
TOO_MANY_PIECES = -28


def is_index(number, things):
    """Whether something stands at this index; Python itself would count below 0 from the end."""
    return 0 <= number and number < len(things)


def add_piece(pieces, left, right):
    """Append a piece."""
    if not is_mark(left) or not is_mark(right):
        return [OUT_OF_RANGE]
    if len(pieces) >= MOST_PIECES:
        return [TOO_MANY_PIECES]
    pieces.append((left, right))
    return [len(pieces) - 1]


def remove_piece(pieces, i):
    """Take out piece `i`."""
    if not is_index(i, pieces):
        return [NOT_THERE]
    pieces.pop(i)
    return [len(pieces)]


def set_piece(pieces, i, left, right):
    """Give piece `i` new marks and answer its old ones."""
    if not is_index(i, pieces):
        return [NOT_THERE]
    if not is_mark(left) or not is_mark(right):
        return [OUT_OF_RANGE]
    old = pieces[i]
    pieces[i] = (left, right)
    return [0, old[0], old[1]]


def chain_count(pieces):
    """How many complete chains there are."""
    return [len(complete_chains(pieces))]


def chain(pieces, k):
    """Complete chain `k`, behind its length."""
    found = complete_chains(pieces)
    if not is_index(k, found):
        return [NOT_THERE]
    return [len(pieces)] + found[k]


def single_chain_possible(pieces):
    """1 if no more than one chain is needed, otherwise 0."""
    return [1 if fewest_chains(pieces) <= 1 else 0]


def min_chains(pieces):
    """The minimum number of chains."""
    return [fewest_chains(pieces)]


def excesses(pieces):
    """The excess of each mark, behind the number of marks."""
    found = excess_of_each_mark(pieces)
    return [len(found)] + found
