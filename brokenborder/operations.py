"""The calls on an instance: each gives the list of the numbers that it answers.

The instance is its list of pieces, each a pair of marks: left, right.
"""

from brokenborder.chains import SEPARATOR, begins_with, circuits, complete_chains
from brokenborder.chains import lays_all_pieces, separated_lists
from brokenborder.marks import component_names, excess_of_each_mark, fewest_chains, is_mark
from brokenborder.marks import used_marks
from brokenborder.trees import circuits_by_trees, number_of_trees

MOST_PIECES = 7

NOT_THERE = -2
NOT_USED = -6
OUT_OF_RANGE = -22
TOO_MANY_PIECES = -28


def is_index(number, things):
    """Whether something stands at this index; Python itself would count below 0 from the end."""
    return 0 <= number and number < len(things)


def add_piece(pieces, left, right):
    """Append a piece."""
    if not is_mark(left) or not is_mark(right):
        return [OUT_OF_RANGE]
    if len(pieces) >= MOST_PIECES:
        return [TOO_MANY_PIECES]
    pieces.append((left, right))
    return [len(pieces) - 1]


def remove_piece(pieces, i):
    """Take out piece `i`."""
    if not is_index(i, pieces):
        return [NOT_THERE]
    pieces.pop(i)
    return [len(pieces)]


def set_piece(pieces, i, left, right):
    """Give piece `i` new marks and answer its old ones."""
    if not is_index(i, pieces):
        return [NOT_THERE]
    if not is_mark(left) or not is_mark(right):
        return [OUT_OF_RANGE]
    old = pieces[i]
    pieces[i] = (left, right)
    return [0, old[0], old[1]]


def chain_count(pieces):
    """How many complete chains there are."""
    return [len(complete_chains(pieces))]


def chain(pieces, k):
    """Complete chain `k`, behind its length."""
    found = complete_chains(pieces)
    if not is_index(k, found):
        return [NOT_THERE]
    return [len(pieces)] + found[k]


def single_chain_possible(pieces):
    """1 if no more than one chain is needed, otherwise 0."""
    return [1 if fewest_chains(pieces) <= 1 else 0]


def min_chains(pieces):
    """The minimum number of chains."""
    return [fewest_chains(pieces)]


def excesses(pieces):
    """The excess of each mark, behind the number of marks."""
    found = excess_of_each_mark(pieces)
    return [len(found)] + found


def components(pieces):
    """The names of the components, behind how many there are."""
    names = component_names(pieces)
    return [len(names)] + names


def circuit_count(pieces):
    """How many circuits there are: once by listing them, once by trees."""
    return [len(circuits(pieces)), circuits_by_trees(pieces)]


def circuit(pieces, k):
    """Circuit `k`, behind its length."""
    found = circuits(pieces)
    if not is_index(k, found):
        return [NOT_THERE]
    return [len(pieces)] + found[k]


def tree_count(pieces, mark):
    """How many trees to this mark there are."""
    if not is_mark(mark):
        return [OUT_OF_RANGE]
    if mark not in used_marks(pieces):
        return [NOT_USED]
    return [number_of_trees(pieces, mark)]


def check_chains(pieces, numbers):
    """1 if the separated lists are chains that hold each piece once, otherwise 0; how many lists."""
    if len(numbers) == 0:
        return [OUT_OF_RANGE]
    for number in numbers:
        if number != SEPARATOR and not is_index(number, pieces):
            return [OUT_OF_RANGE]
    valid = 1 if lays_all_pieces(pieces, numbers) else 0
    return [valid, len(separated_lists(numbers))]


def chains_from(pieces, mark):
    """How many complete chains begin with this mark."""
    if not is_mark(mark):
        return [OUT_OF_RANGE]
    return [len([laid for laid in complete_chains(pieces) if begins_with(pieces, laid, mark)])]


def evaluate_with_piece(pieces, left, right):
    """What min_chains and chain_count would answer with this piece appended."""
    tried = list(pieces)
    added = add_piece(tried, left, right)
    if added[0] < 0:
        return added
    return min_chains(tried) + chain_count(tried)


def describe(pieces):
    """The marks of each piece, behind how many pieces there are."""
    told = [len(pieces)]
    for left, right in pieces:
        told.append(left)
        told.append(right)
    return told
