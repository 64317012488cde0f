"""Looks of normal terms, and the way to the end of a crowd (points 26 to 28)."""

from lydite.errors import AllEqual, BadCrowd
from lydite.heads import head
from lydite.removal import needless
from lydite.roads import first_redex
from lydite.terms import free, lift

MOST_CROWD = 12


def stretched_form(form, count):
    """Return what `stretched` does, for what `head` returns. Raise TooLarge."""
    own, variable, arguments = form
    more = count - own
    found = [lift(argument, more) for argument in arguments]
    for number in reversed(range(more)):
        found.append((number,))
    return lift((variable,), more)[0], found


def stretched(term, count):
    """Return the head and the arguments of a normal term with so many abstractions.

    Raise TooLarge.
    """
    return stretched_form(head(term), count)


def alike_forms(forms):
    """Return True if the terms are alike for which `head` returns the forms."""
    # To stretch a term adds the same number to its abstractions, its head and
    # the number of its arguments.
    found = [(variable - own, len(arguments) - own) for own, variable, arguments in forms]
    return are_equal(found)


def are_alike(terms):
    """Return True if normal terms are alike."""
    return alike_forms([head(term) for term in terms])


def are_equal(values):
    """Return True if all values of a list are equal."""
    return all(value == values[0] for value in values)


def is_settled(term):
    """Return True if a term is closed and fully normal."""
    return free(term) == [] and first_redex(term, 0) is None and needless(term) == []


def check_settled(terms, least):
    """Raise BadCrowd if there are too few or too many terms, or not settled ones."""
    if not least <= len(terms) <= MOST_CROWD:
        raise BadCrowd(f"there are not {least} to {MOST_CROWD} terms")
    for term in terms:
        if not is_settled(term):
            raise BadCrowd("a term is not closed and fully normal")


def first_difference(rows):
    """Return the least index at which the rows of arguments are not all equal."""
    number = 0
    while are_equal([arguments[number] for arguments in rows]):
        number += 1
    return number


class Position:
    """A position on the way to the end of a crowd.

    The levels of its look are those from `first_level` on and below `end_level`.
    Its heads are pairs of the level and the number of arguments; its rows are
    the lists of the arguments. The turn of the end is None.
    """

    def __init__(self, terms, first_level):
        forms = [head(term) for term in terms]
        count = max([own for own, _, _ in forms])
        self.first_level = first_level
        self.end_level = first_level + count
        self.heads = []
        self.rows = []
        for form in forms:
            variable, arguments = stretched_form(form, count)
            self.heads.append((self.end_level - 1 - variable, len(arguments)))
            self.rows.append(arguments)
        self.turn = None
        if alike_forms(forms):
            self.turn = first_difference(self.rows)


def positions(crowd):
    """Return the list of the positions of a crowd. Raise BadCrowd, AllEqual."""
    check_settled(crowd, 2)
    if are_equal(crowd):
        raise AllEqual("all terms of the crowd are equal")
    last = Position(crowd, 0)
    found = [last]
    while last.turn is not None:
        last = Position([arguments[last.turn] for arguments in last.rows], last.end_level)
        found.append(last)
    return found


def turns(crowd):
    """Return the list of the turns of a crowd. Raise BadCrowd, AllEqual."""
    return [position.turn for position in positions(crowd)[:-1]]
