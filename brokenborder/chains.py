"""The complete chains of the pieces."""


def fits_behind(pieces, laid, i):
    """Whether piece `i` may be laid behind the chain `laid`."""
    if i in laid:
        return False
    if len(laid) == 0:
        return True
    return pieces[laid[-1]][1] == pieces[i][0]


def longer_chains(pieces, shorter):
    """Every chain that is one of `shorter` with one more piece behind it."""
    longer = []
    # Walking both in ascending order keeps the chains in the order of their pieces' numbers.
    for laid in shorter:
        for i in range(len(pieces)):
            if fits_behind(pieces, laid, i):
                longer.append(laid + [i])
    return longer


def complete_chains(pieces):
    """All complete chains, in their order."""
    found = [[]]
    while len(found) > 0 and len(found[0]) < len(pieces):
        found = longer_chains(pieces, found)
    return found
