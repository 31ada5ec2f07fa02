"""What the tests share: calls with their names, and requests with their answers split up."""

from brokenborder.pieces import answers

LEAST = -2147483648
MOST = 2147483647

CREATE = (0,)
CHAIN_COUNT = (4,)
SINGLE_CHAIN_POSSIBLE = (6,)
MIN_CHAINS = (7,)
EXCESSES = (8,)


def add_piece(left, right):
    return (1, left, right)


def remove_piece(i):
    return (2, i)


def set_piece(i, left, right):
    return (3, i, left, right)


def chain(k):
    return (5, k)


def start(*pieces):
    """The calls that make an instance of these pieces."""
    return [CREATE] + [add_piece(left, right) for left, right in pieces]


def ask(calls):
    """The answers to a list of calls, one list of numbers for each call."""
    if not 1 <= len(calls) <= 60:
        raise ValueError("a request has 1 to 60 calls")
    written = answers([number for call in calls for number in call])
    if type(written) is not list or any(type(number) is not int for number in written):
        raise AssertionError("not a list of whole numbers: %r" % (written,))
    split = []
    position = 0
    while position < len(written):
        behind = position + 1 + written[position]
        split.append(written[position + 1:behind])
        position = behind
    if position != len(written) or len(split) != len(calls):
        raise AssertionError("not one answer for each call: %r" % (written,))
    return split


def ask_last(calls):
    """The answer to the last of these calls."""
    return ask(calls)[-1]


def pieces_after(calls):
    """The pieces that the instance holds after these calls.

    set_piece answers the old marks; it's refused for the first index that isn't there.
    """
    probes = [set_piece(i, 0, 0) for i in range(8)]
    pieces = []
    for answer in ask(list(calls) + probes)[len(calls):]:
        if answer == [-2]:
            break
        pieces.append((answer[1], answer[2]))
    return pieces
