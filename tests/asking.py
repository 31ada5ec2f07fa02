"""What the tests share: calls with their names, and requests with their answers split up."""

from brokenborder.pieces import answers

LEAST = -2147483648
MOST = 2147483647

# Numbers that are neither a mark nor the index of a piece nor the number of a chain.
NO_MARKS = (-1, 6, LEAST, MOST)
NO_INDICES = (-1, 7, LEAST, MOST)

CREATE = (0,)
CHAIN_COUNT = (4,)
SINGLE_CHAIN_POSSIBLE = (6,)
MIN_CHAINS = (7,)
EXCESSES = (8,)
COMPONENTS = (9,)
CIRCUIT_COUNT = (10,)
DESCRIBE = (16,)


def add_piece(left, right):
    return (1, left, right)


def remove_piece(i):
    return (2, i)


def set_piece(i, left, right):
    return (3, i, left, right)


def chain(k):
    return (5, k)


def circuit(k):
    return (11, k)


def tree_count(mark):
    return (12, mark)


def check_chains(chains):
    return (13, len(chains), *chains)


def chains_from(mark):
    return (14, mark)


def evaluate_with_piece(left, right):
    return (15, left, right)


def start(*pieces):
    """The calls that make an instance of these pieces."""
    return [CREATE] + [add_piece(left, right) for left, right in pieces]


def ask(calls):
    """The answers to a list of calls, one list of numbers for each call."""
    if not 1 <= len(calls) <= 60:
        raise ValueError("a request has 1 to 60 calls")
    written = answers([number for call in calls for number in call])
    if type(written) is not list or any(type(number) is not int for number in written):
        raise AssertionError("not a list of whole numbers: %r" % (written,))
    split = []
    position = 0
    while position < len(written):
        behind = position + 1 + written[position]
        split.append(written[position + 1:behind])
        position = behind
    if position != len(written) or len(split) != len(calls):
        raise AssertionError("not one answer for each call: %r" % (written,))
    return split


def ask_last(calls):
    """The answer to the last of these calls."""
    return ask(calls)[-1]


def ask_about(pieces, queries):
    """The answers to the queries on an instance of these pieces, in as many requests as needed."""
    calls = start(*pieces)
    room = 60 - len(calls)
    found = []
    for position in range(0, len(queries), room):
        found += ask(calls + list(queries[position:position + room]))[len(calls):]
    return found


def pieces_after(calls):
    """The pieces that the instance holds after these calls."""
    told = ask_last(list(calls) + [DESCRIBE])
    if len(told) != 1 + 2 * told[0]:
        raise AssertionError("not left and right of each piece: %r" % (told,))
    return list(zip(told[1::2], told[2::2]))
