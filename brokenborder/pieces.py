"""The way in: one list of calls is read, one list of answers is given back."""

from brokenborder.operations import add_piece, chain, chain_count, chains_from, check_chains
from brokenborder.operations import circuit, circuit_count, components, describe
from brokenborder.operations import evaluate_with_piece, excesses, min_chains, remove_piece
from brokenborder.operations import set_piece, single_chain_possible, tree_count

NO_INSTANCE = -11

CREATE = 0
LAST_CHANGE = 3
CHECK_CHAINS = 13

# How many numbers stand behind the number of each call; of check_chains only the length of its row.
PARAMETER_COUNTS = (0, 2, 1, 3, 0, 1, 0, 0, 0, 0, 0, 1, 1, 1, 1, 2, 0)


def answer_to_change(pieces, number, given):
    """What add_piece, remove_piece or set_piece answers."""
    if number == 1:
        return add_piece(pieces, given[0], given[1])
    if number == 2:
        return remove_piece(pieces, given[0])
    return set_piece(pieces, given[0], given[1], given[2])


def answer_to_plain_query(pieces, number):
    """What a query that is given nothing answers."""
    if number == 4:
        return chain_count(pieces)
    if number == 6:
        return single_chain_possible(pieces)
    if number == 7:
        return min_chains(pieces)
    if number == 8:
        return excesses(pieces)
    if number == 9:
        return components(pieces)
    if number == 10:
        return circuit_count(pieces)
    return describe(pieces)


def answer_to_query(pieces, number, given):
    """What a query answers to the numbers that are given to it."""
    if number == 5:
        return chain(pieces, given[0])
    if number == 11:
        return circuit(pieces, given[0])
    if number == 12:
        return tree_count(pieces, given[0])
    if number == CHECK_CHAINS:
        # The length of the row stands ahead of it.
        return check_chains(pieces, given[1:])
    if number == 14:
        return chains_from(pieces, given[0])
    return evaluate_with_piece(pieces, given[0], given[1])


def answer_on_instance(pieces, number, given):
    """The numbers that one call, with the numbers given to it, answers on an instance."""
    if number <= LAST_CHANGE:
        return answer_to_change(pieces, number, given)
    if len(given) == 0:
        return answer_to_plain_query(pieces, number)
    return answer_to_query(pieces, number, given)


def end_of_call(calls, position):
    """Where the call that begins at this position ends in the list: the position behind it."""
    number = calls[position]
    behind = position + 1 + PARAMETER_COUNTS[number]
    if number == CHECK_CHAINS:
        return behind + calls[position + 1]
    return behind


def answers(calls):
    """The answers to these calls on one new object, each behind how many numbers it has."""
    written = []
    pieces = None
    position = 0
    while position < len(calls):
        number = calls[position]
        behind = end_of_call(calls, position)
        given = calls[position + 1:behind]
        position = behind
        if number == CREATE:
            pieces = []
            answer = [0]
        elif pieces is None:
            answer = [NO_INSTANCE]
        else:
            answer = answer_on_instance(pieces, number, given)
        written.append(len(answer))
        written.extend(answer)
    return written
