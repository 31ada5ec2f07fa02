"""Chains of the pieces: the complete ones, the circuits, and lists that are handed in."""

# Stands between two lists of pieces that are written as one list.
SEPARATOR = -1


def fits_behind(pieces, laid, i):
    """Whether piece `i` may be laid behind the chain `laid`."""
    if i in laid:
        return False
    if len(laid) == 0:
        return True
    return pieces[laid[-1]][1] == pieces[i][0]


def longer_chains(pieces, shorter):
    """Every chain that is one of `shorter` with one more piece behind it."""
    longer = []
    # Walking both in ascending order keeps the chains in the order of their pieces' numbers.
    for laid in shorter:
        for i in range(len(pieces)):
            if fits_behind(pieces, laid, i):
                longer.append(laid + [i])
    return longer


def complete_chains(pieces):
    """All complete chains, in their order."""
    found = [[]]
    while len(found) > 0 and len(found[0]) < len(pieces):
        found = longer_chains(pieces, found)
    return found


def begins_with(pieces, laid, mark):
    """Whether the first piece of the chain `laid` begins with this mark; an empty one has none."""
    return len(laid) > 0 and pieces[laid[0]][0] == mark


def closes(pieces, laid):
    """Whether the complete chain `laid` is a circuit."""
    if len(laid) == 0 or laid[0] != 0:
        return False
    return pieces[laid[-1]][1] == pieces[0][0]


def circuits(pieces):
    """All circuits, in their order."""
    return [laid for laid in complete_chains(pieces) if closes(pieces, laid)]


def is_chain(pieces, numbers):
    """Whether these numbers of pieces, in this order, are a chain."""
    return all([fits_behind(pieces, numbers[:n], numbers[n]) for n in range(len(numbers))])


def separated_lists(numbers):
    """The lists between the separators."""
    lists = []
    current = []
    for number in numbers:
        if number == SEPARATOR:
            lists.append(current)
            current = []
        else:
            current.append(number)
    return lists + [current]


def holds_each_piece_once(pieces, numbers):
    """Whether the numbers, but for the separators, are those of all pieces, each of them once."""
    held = [number for number in numbers if number != SEPARATOR]
    return sorted(held) == list(range(len(pieces)))


def lays_all_pieces(pieces, numbers):
    """Whether the lists between the separators are non-empty chains that hold each piece once."""
    for laid in separated_lists(numbers):
        if len(laid) == 0 or not is_chain(pieces, laid):
            return False
    return holds_each_piece_once(pieces, numbers)
