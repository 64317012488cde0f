"""Places: strings that lead from a term to its parts (point 4)."""

from lydite.errors import NoPlace
from lydite.terms import checked, part_count


def letters_of(node):
    """Return the letters that lead from a node to its parts, in order."""
    if node == "app":
        return "fa"
    if node == "lam":
        return "b"
    return ""


def places(term):
    """Return the list of all places of a term, in order."""
    found = []
    pending = [""]
    for node in term:
        place = pending.pop()
        found.append(place)
        for letter in reversed(letters_of(node)):
            pending.append(place + letter)
    return found


def end_of(term, start):
    """Return the index behind the part that starts at an index of a term."""
    missing = 1
    end = start
    while missing > 0:
        missing += part_count(term[end]) - 1
        end += 1
    return end


def start_of(term, place):
    """Return the index at which the part at a place starts. Raise NoPlace."""
    start = 0
    for letter in place:
        if letter not in letters_of(term[start]):
            raise NoPlace("the string is no place of the term")
        start += 1
        if letter == "a":
            start = end_of(term, start)
    return start


def part(term, place):
    """Return the part at a place. Raise NoPlace.

    A term beyond the limits may have a part that raises TooLarge (point 3).
    """
    start = start_of(term, place)
    return checked(term[start:end_of(term, start)])


def replace(term, place, value):
    """Return the term with the value at a place. Raise NoPlace, TooLarge."""
    start = start_of(term, place)
    end = end_of(term, start)
    return checked(term[:start] + value + term[end:])


def comes_before(first, second):
    """Return True if the first place of a term comes before the second one."""
    for mine, other in zip(first, second):
        if mine != other:
            # Where two places of one term part, one goes f and one goes a.
            return mine == "f"
    return len(first) < len(second)
