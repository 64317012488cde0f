"""Heads of terms, and what is known of terms (points 23 to 25)."""

from lydite.order import repeated
from lydite.places import end_of
from lydite.roads import stepped
from lydite.terms import checked


def head_index(term, start):
    """Return the index of the head of the part that starts at an index."""
    at = start
    while term[at] == "lam":
        at += 1
    while term[at] == "app":
        at += 1
    return at


def head(term):
    """Return the abstractions, the head and the arguments of a term, or None.

    The abstractions are given by their number. None: the term has no head.
    """
    at = head_index(term, 0)
    if term[at] == "lam":
        return None
    # There are as many applications in front of the head as arguments behind it.
    arguments = []
    start = at + 1
    while start < len(term):
        end = end_of(term, start)
        arguments.append(checked(term[start:end]))
        start = end
    return at - len(arguments), term[at], arguments


def with_head(count, variable, arguments):
    """Return the term with so many abstractions, a head and arguments.

    Raise TooLarge.
    """
    nodes = ["lam"] * count + ["app"] * len(arguments) + [variable]
    for argument in arguments:
        nodes.extend(argument)
    return checked(tuple(nodes))


def head_redex(term, _):
    """Return the index of the head redex, or None, wherever the last one was."""
    at = head_index(term, 0)
    if term[at] == "lam":
        return at - 1
    return None


def head_normal(term, steps):
    """Return the first term with a head, and the number of steps at head redexes.

    Raise TooLarge, OutOfSteps.
    """
    return repeated(term, steps, head_redex, stepped)


def known(term):
    """Return what is known of a term, a partial term."""
    nodes = []
    start = 0
    # Behind a head that is a variable, its first argument starts.
    while start < len(term):
        at = head_index(term, start)
        if term[at] == "lam":
            nodes.append("?")
            start = end_of(term, start)
        else:
            nodes.extend(term[start:at + 1])
            start = at + 1
    return checked(tuple(nodes))


def is_below(first, second):
    """Return True if the first partial term is below the second one."""
    at = 0
    for node in first:
        if node == "?":
            at = end_of(second, at)
        elif node != second[at]:
            return False
        else:
            at += 1
    return True


def least_above(first, second):
    """Return the least partial term above both, or None. Raise TooLarge."""
    nodes = []
    at = 0
    other = 0
    while at < len(first):
        start = len(nodes)
        if first[at] == "?":
            nodes.extend(second[other:end_of(second, other)])
            at += 1
            other += len(nodes) - start
        elif second[other] == "?":
            nodes.extend(first[at:end_of(first, at)])
            at += len(nodes) - start
            other += 1
        elif first[at] != second[other]:
            return None
        else:
            nodes.append(first[at])
            at += 1
            other += 1
    return checked(tuple(nodes))
