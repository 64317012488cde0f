"""Needless abstractions and their removal (points 21 and 22)."""

from lydite.errors import NoRedex
from lydite.order import normal
from lydite.places import end_of, places, start_of
from lydite.roads import index_at, step
from lydite.terms import checked, lifted_nodes, unlifted


def removed_part(term, at):
    """Return what a removal puts in place of the part that starts at an index.

    Return None if this part is no needless abstraction.
    """
    if term[at] != "lam" or term[at + 1] != "app":
        return None
    middle = end_of(term, at + 2)
    if term[middle] != 0:
        return None
    return unlifted(term[at + 2:middle], 1)


def needless(term):
    """Return the list of the needless abstractions of a term, in order."""
    found = places(term)
    return [found[at] for at in range(len(term)) if removed_part(term, at) is not None]


def remove(term, place):
    """Return the term without the needless abstraction at a place. Raise NoRedex."""
    at = index_at(term, place)
    result = removed_part(term, at)
    if result is None:
        raise NoRedex("the place is no needless abstraction of the term")
    return checked(term[:at] + result + term[end_of(term, at):])


def follow_mixed(term, road):
    """Return where a mixed road leads. Raise the first error on it."""
    for kind, place in road:
        if kind == "step":
            term = step(term, place)
        else:
            term = remove(term, place)
    return checked(term)


def shrink(term):
    """Return the term without needless abstractions, and how many went away."""
    pending = []
    # The nodes from the last one on: a removal in a part makes none there.
    for node in reversed(term):
        if node == "app":
            function = pending.pop()
            pending.append(("app",) + function + pending.pop())
        elif node == "lam":
            whole = ("lam",) + pending.pop()
            result = removed_part(whole, 0)
            pending.append(whole if result is None else result)
        else:
            pending.append((node,))
    result = checked(pending.pop())
    # Each removal takes three nodes away: "lam", "app" and the variable 0.
    return result, (len(term) - len(result)) // 3


def fully_normal(term, steps):
    """Return shrink's term of the normal term. Raise TooLarge, OutOfSteps."""
    result, _ = normal(term, steps)
    shrunk, _ = shrink(result)
    return shrunk


def expand(term, place):
    """Return the term with a needless abstraction put in at a place.

    Raise NoPlace, TooLarge.
    """
    start = start_of(term, place)
    end = end_of(term, start)
    lifted = tuple(lifted_nodes(term[start:end], 1))
    return checked(term[:start] + ("lam", "app") + lifted + (0,) + term[end:])
