"""Combinations, which have no bound variables (points 40 to 42)."""

from lydite.errors import NoRedex
from lydite.order import repeated
from lydite.places import end_of, places
from lydite.roads import index_at
from lydite.terms import check_size, checked, is_written

# How the redexes of combinations begin.
REDEXES = (("app", "I"), ("app", "app", "K"), ("app", "app", "app", "S"))

TERMS = {
    "S": ("lam", "lam", "lam", "app", "app", 2, 0, "app", 1, 0),
    "K": ("lam", "lam", 1),
    "I": ("lam", 0),
}


def is_combination(value):
    """Return True if the value is a combination of at most MOST_NODES nodes."""
    return is_written(value, ("app", "S", "K", "I"))


def decreased(combination):
    """Return the list of the nodes with each variable decreased by 1."""
    return [node - 1 if isinstance(node, int) else node for node in combination]


def parts_with_zero(combination):
    """Return a list that tells for each node if the variable 0 is in its part."""
    found = []
    pending = []
    for node in reversed(combination):
        has_zero = node == 0
        if node == "app":
            function = pending.pop()
            has_zero = pending.pop() or function
        pending.append(has_zero)
        found.append(has_zero)
    return found[::-1]


def abstracted(combination):
    """Return the abstraction of a combination. Raise TooLarge."""
    has_zero = parts_with_zero(combination)
    nodes = []
    at = 0
    while at < len(combination):
        end = at + 1
        if not has_zero[at]:
            end = end_of(combination, at)
            nodes.extend(["app", "K"])
            nodes.extend(decreased(combination[at:end]))
        elif combination[at] == 0:
            nodes.append("I")
        else:
            # The abstractions of both parts follow.
            nodes.extend(["app", "app", "S"])
        at = end
    return checked(tuple(nodes))


def combination_of(term):
    """Return the combination of a term. Raise TooLarge.

    The abstraction of a combination is not smaller than the combination, so that
    the result is too large if the combination of a part of the term is.
    """
    pending = []
    # The nodes from the last one on, so that the combinations of parts are there.
    for node in reversed(term):
        if node == "app":
            function = pending.pop()
            pending.append(("app",) + function + pending.pop())
            check_size(len(pending[-1]))
        elif node == "lam":
            pending.append(abstracted(pending.pop()))
        else:
            pending.append((node,))
    return checked(pending.pop())


def term_of(combination):
    """Return the term of a combination. Raise TooLarge."""
    nodes = []
    for node in combination:
        nodes.extend(TERMS.get(node, (node,)))
    return checked(tuple(nodes))


def value_put(combination, value):
    """Return the combination with a value for its variable 0. Raise TooLarge."""
    nodes = []
    for node in combination:
        if node == 0:
            nodes.extend(value)
        else:
            nodes.extend(decreased((node,)))
    return checked(tuple(nodes))


def is_combination_redex(combination, at):
    """Return True if a redex of the combination begins at an index."""
    return any([combination[at:at + len(start)] == start for start in REDEXES])


def combination_redexes(combination):
    """Return the list of the redexes of a combination, in order."""
    found = places(combination)
    return [found[at] for at in range(len(combination)) if is_combination_redex(combination, at)]


def combination_stepped(combination, at):
    """Return where the step at the redex with this index leads. Raise TooLarge."""
    word_at = at
    while combination[word_at] == "app":
        word_at += 1
    end = word_at + 1
    values = []
    for _ in range(word_at - at):
        start = end
        end = end_of(combination, start)
        values.append(combination[start:end])
    result = values[0]
    if combination[word_at] == "S":
        a, b, c = values
        result = ("app", "app") + a + c + ("app",) + b + c
    return checked(combination[:at] + result + combination[end:])


def combination_step(combination, place):
    """Return where the step at a place leads. Raise NoRedex, TooLarge."""
    at = index_at(combination, place)
    if not is_combination_redex(combination, at):
        raise NoRedex("the place is no redex of the combination")
    return combination_stepped(combination, at)


def next_combination_redex(combination, at):
    """Return the first redex of what the step at the first redex leads to.

    Return None if there is none. Four nodes tell whether a redex begins, so
    that it does not begin more than three in front of the old one.
    """
    for start in range(max(at - 3, 0), len(combination)):
        if is_combination_redex(combination, start):
            return start
    return None


def combination_normal(combination, steps):
    """Return the result of steps at the first redex, and the number of steps.

    Raise TooLarge, OutOfSteps.
    """
    return repeated(combination, steps, next_combination_redex, combination_stepped)
