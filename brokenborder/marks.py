"""What the marks at the ends of the pieces tell: excesses, components, the fewest chains."""

MARK_COUNT = 6


def is_mark(number):
    """Whether this number is a mark."""
    return 0 <= number and number < MARK_COUNT


def excess_of_each_mark(pieces):
    """The excess of each mark, in the order of the marks."""
    excesses = [0] * MARK_COUNT
    for left, right in pieces:
        excesses[left] += 1
        excesses[right] -= 1
    return excesses


def used_marks(pieces):
    """The used marks, ascending."""
    return [mark for mark in range(MARK_COUNT) if any([mark in piece for piece in pieces])]


def joined(names, one, other):
    """These names, with the two components called `one` and `other` made into one."""
    smaller = min(one, other)
    return [smaller if name in (one, other) else name for name in names]


def component_of_each_mark(pieces):
    """For each mark the name of its component; a mark that isn't used keeps its own number."""
    names = list(range(MARK_COUNT))
    for left, right in pieces:
        names = joined(names, names[left], names[right])
    return names


def component_names(pieces):
    """The names of the components, ascending."""
    names = component_of_each_mark(pieces)
    return [mark for mark in used_marks(pieces) if names[mark] == mark]


def fewest_chains(pieces):
    """The minimum number of chains for all pieces."""
    names = component_of_each_mark(pieces)
    excesses = excess_of_each_mark(pieces)
    total = 0
    for component in component_names(pieces):
        positive = [max(0, excesses[mark]) for mark in range(MARK_COUNT) if names[mark] == component]
        # A component without excess still takes a chain of its own.
        total += max(1, sum(positive))
    return total
