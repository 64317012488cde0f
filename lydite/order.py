"""The order of steps: residuals, standard roads, first steps (points 15 to 20)."""

from lydite.errors import NoRedex, OutOfSteps, TooLarge
from lydite.places import places
from lydite.roads import first_redex, is_redex, redex_at, step_origins, stepped
from lydite.terms import checked

MOST_ROAD = 200


class Move:
    """A step of a road: its term, the index of its redex, and what comes of it."""

    def __init__(self, term, at):
        self.term = term
        self.at = at
        self.result = stepped(term, at)
        self.origins = step_origins(term, at)


def copies(origins, at):
    """Return the ascending list of the indexes of the copies of a node."""
    return [index for index, origin in enumerate(origins) if origin == at]


def residuals(term, place, other):
    """Return the residuals of a redex after the step at a place, in order.

    Raise NoRedex, TooLarge.
    """
    at = redex_at(term, place)
    kept = redex_at(term, other)
    if at == kept:
        raise NoRedex("a redex has no residuals after its own step")
    move = Move(term, at)
    found = places(move.result)
    return [found[index] for index in copies(move.origins, kept)]


def moves_of(term, road):
    """Return the list of the moves of a road. Raise as follow."""
    moves = []
    for place in road:
        move = Move(term, redex_at(term, place))
        moves.append(move)
        term = move.result
    return moves


def is_standard(term, road):
    """Return True if the road is standard. Raise as follow."""
    moves = moves_of(term, road)
    # For each node, whether a redex that begins there may not be stepped.
    barred = [False] * len(term)
    for move in moves:
        if barred[move.at]:
            return False
        for at in range(move.at):
            if is_redex(move.term, at):
                barred[at] = True
        barred = [barred[origin] for origin in move.origins]
    return True


def source(moves, number):
    """Return the redex of the first term whose residual a move steps at.

    Return None if there is none, because a step on the way made the redex.
    """
    at = moves[number].at
    for move in reversed(moves[:number]):
        at = move.origins[at]
        if not is_redex(move.term, at):
            return None
    return at


def first_source(moves):
    """Return the redex p of point 17, and the number of the move at it."""
    first = moves[0].at
    first_number = 0
    for number in range(1, len(moves)):
        at = source(moves, number)
        if at is not None and at < first:
            first = at
            first_number = number
    return first, first_number


def moves_without(moves, p, number):
    """Return the moves of the road without p. Raise TooLarge.

    The number is that of the move at p or its residual. All moves in front of
    it step behind p, and so p has the same index in all of their terms.
    """
    found = []
    term = stepped(moves[0].term, p)
    for move in moves[:number]:
        copied = copies(step_origins(move.term, p), move.at)
        # A step changes no index in front of it: the last one first.
        for at in reversed(copied):
            found.append(Move(term, at))
            term = found[-1].result
        check_length(found)
    return found + moves[number + 1:]


def check_length(road):
    """Raise TooLarge if a road has too many places."""
    if len(road) > MOST_ROAD:
        raise TooLarge(f"a road has more than {MOST_ROAD} places")


def standard(term, road):
    """Return the standard road of a road. Raise NoRedex, TooLarge."""
    moves = moves_of(term, road)
    found = []
    while len(moves) > 0:
        check_length(moves)
        p, number = first_source(moves)
        found.append(places(moves[0].term)[p])
        check_length(found)
        moves = moves_without(moves, p, number)
    return found


def next_redex(term, at):
    """Return the first redex of what the step at the first redex leads to.

    In front of the old one, only the application around it can have become
    one. Return None if there is none.
    """
    return first_redex(term, max(at - 1, 0))


def repeated(term, steps, next_at, step_at):
    """Return the last term of steps that go on as long as there is one to make.

    next_at(term, at) returns the index of the next step behind one at an index
    (0 at the beginning), or None; step_at(term, at) makes it. Return the pair
    of the last term and the number of steps. Raise TooLarge, OutOfSteps.
    """
    count = 0
    at = next_at(term, 0)
    while at is not None:
        if count >= steps:
            raise OutOfSteps("there is a further step after so many steps")
        term = step_at(term, at)
        count += 1
        at = next_at(term, at)
    return checked(term), count


def normal(term, steps):
    """Return the normal term and the number of steps. Raise TooLarge, OutOfSteps."""
    return repeated(term, steps, next_redex, stepped)


def first_steps(term, count):
    """Return the road of the first steps at the first redex. Raise TooLarge."""
    road = []
    at = first_redex(term, 0)
    while at is not None and len(road) < count:
        road.append(places(term)[at])
        term = stepped(term, at)
        at = next_redex(term, at)
    return road
