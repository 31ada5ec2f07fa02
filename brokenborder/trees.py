"""Trees to a mark, and the circuits counted by them."""

from brokenborder.marks import MARK_COUNT, component_names, excess_of_each_mark, used_marks


def pieces_from(pieces, mark):
    """The pieces that begin with this mark."""
    return [piece for piece in pieces if piece[0] == mark]


def with_a_choice(choices, pieces, mark):
    """Each of these choices with each piece that may be chosen at this mark.

    A choice is written as one list: for each mark the mark to which its chosen piece leads.
    """
    more = []
    for chosen in choices:
        for piece in pieces_from(pieces, mark):
            more.append(chosen[:mark] + [piece[1]] + chosen[mark + 1:])
    return more


def all_choices(pieces, target):
    """Every choice of one piece for each used mark other than the target."""
    # At the target one stays; a mark that isn't used must not keep a choice from being a tree.
    choices = [[target] * MARK_COUNT]
    for mark in used_marks(pieces):
        if mark != target:
            choices = with_a_choice(choices, pieces, mark)
    return choices


def leads_to(chosen, mark, target):
    """Whether one gets from the mark to the target along the chosen pieces."""
    reached = mark
    # Who has not arrived after so many steps goes round for ever.
    for step in range(MARK_COUNT):
        reached = chosen[reached]
    return reached == target


def is_tree(chosen, target):
    """Whether the chosen pieces lead to the target from every mark."""
    return all([leads_to(chosen, mark, target) for mark in range(MARK_COUNT)])


def number_of_trees(pieces, target):
    """How many trees to this mark there are."""
    return len([chosen for chosen in all_choices(pieces, target) if is_tree(chosen, target)])


def factorial(number):
    """The product of the numbers from 1 to this one; 1 for 0."""
    product = 1
    for factor in range(2, number + 1):
        product = product * factor
    return product


def circuits_by_trees(pieces):
    """The number of circuits by trees."""
    if len(pieces) == 0 or len(component_names(pieces)) > 1:
        return 0
    if any([excess != 0 for excess in excess_of_each_mark(pieces)]):
        return 0
    product = number_of_trees(pieces, pieces[0][0])
    for mark in used_marks(pieces):
        product = product * factorial(len(pieces_from(pieces, mark)) - 1)
    return product
