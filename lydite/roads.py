"""Redexes, steps and roads (point 9).

Other modules name a redex by the index of its application in the tuple.
"""

from lydite.errors import NoPlace, NoRedex
from lydite.places import end_of, places, start_of
from lydite.terms import checked, put, put_origins


def is_redex(term, at):
    """Return True if an application of an abstraction begins at an index."""
    return term[at] == "app" and term[at + 1] == "lam"


def redex_indexes(term):
    """Return the ascending list of the indexes of all redexes."""
    return [at for at in range(len(term)) if is_redex(term, at)]


def first_redex(term, start):
    """Return the index of the first redex from an index on, or None."""
    for at in range(start, len(term)):
        if is_redex(term, at):
            return at
    return None


def index_at(term, place):
    """Return the index of a node at which there may be a redex. Raise NoRedex."""
    try:
        return start_of(term, place)
    except NoPlace:
        raise NoRedex("the string is no place of the term") from None


def redex_at(term, place):
    """Return the index of the redex at a place. Raise NoRedex."""
    at = index_at(term, place)
    if not is_redex(term, at):
        raise NoRedex("the place is no redex of the term")
    return at


def stepped(term, at):
    """Return where the step at the redex with this index leads. Raise TooLarge."""
    middle = end_of(term, at + 1)
    end = end_of(term, middle)
    result = put(term[at + 2:middle], term[middle:end])
    return checked(term[:at] + result + term[end:])


def step_origins(term, at):
    """Return where the nodes behind the step at a redex come from.

    The list has, for each node of what the step leads to, the index of the
    node of the term that it is a copy of.
    """
    middle = end_of(term, at + 1)
    end = end_of(term, middle)
    found = list(range(at))
    for origin in put_origins(term[at + 2:middle], term[middle:end]):
        found.append(at + 2 + origin)
    found.extend(list(range(end, len(term))))
    return found


def redexes(term):
    """Return the list of the redexes of a term, in order."""
    found = places(term)
    return [found[at] for at in redex_indexes(term)]


def step(term, place):
    """Return where the step at a place leads. Raise NoRedex, TooLarge."""
    return stepped(term, redex_at(term, place))


def follow(term, road):
    """Return where a road leads. Raise the first error of a step."""
    for place in road:
        term = step(term, place)
    return checked(term)


def passed(term, road):
    """Return the list of the terms that a road passes. Raise as follow."""
    found = [term]
    for place in road:
        found.append(step(found[-1], place))
    checked(term)
    return found
