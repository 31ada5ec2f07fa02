"""The way in: one list of calls is read, one list of answers is given back."""

from brokenborder.operations import add_piece, chain, chain_count, excesses, min_chains
from brokenborder.operations import remove_piece, set_piece, single_chain_possible

NO_INSTANCE = -11

CREATE = 0

# How many numbers stand behind the number of each call.
PARAMETER_COUNTS = (0, 2, 1, 3, 0, 1, 0, 0, 0)


def answer_on_instance(pieces, number, given):
    """The numbers that one call, with the numbers given to it, answers on an instance."""
    if number == 1:
        return add_piece(pieces, given[0], given[1])
    if number == 2:
        return remove_piece(pieces, given[0])
    if number == 3:
        return set_piece(pieces, given[0], given[1], given[2])
    if number == 4:
        return chain_count(pieces)
    if number == 5:
        return chain(pieces, given[0])
    if number == 6:
        return single_chain_possible(pieces)
    if number == 7:
        return min_chains(pieces)
    return excesses(pieces)


def answers(calls):
    """The answers to these calls on one new object, each behind how many numbers it has."""
    written = []
    pieces = None
    position = 0
    while position < len(calls):
        number = calls[position]
        behind = position + 1 + PARAMETER_COUNTS[number]
        given = calls[position + 1:behind]
        position = behind
        if number == CREATE:
            pieces = []
            answer = [0]
        elif pieces is None:
            answer = [NO_INSTANCE]
        else:
            answer = answer_on_instance(pieces, number, given)
        written.append(len(answer))
        written.extend(answer)
    return written
