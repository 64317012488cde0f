"""Developments, and roads that meet (points 11 to 13).

A development steps at all redexes of a term and at their copies. To carry the
steps of roads over to developments, the functions here can also step at some
redexes only. Such a choice is a dict whose keys are indexes of redexes.
"""

from lydite.places import end_of, places
from lydite.roads import follow, passed, redex_at, redex_indexes
from lydite.terms import check_size, checked, depths, put, put_origins

MOST_SHORT = 12


def all_redexes(term):
    """Return the choice of all redexes of a term."""
    return {at: True for at in redex_indexes(term)}


def joined(head, parts):
    """Return the pair of a term and its origins, made of a node and parts.

    The node and the parts are such pairs, too. No variable becomes greater
    here, so that only the size is checked. Raise TooLarge.
    """
    nodes, origins = head
    for part_nodes, part_origins in parts:
        nodes = nodes + part_nodes
        origins = origins + part_origins
    check_size(len(nodes))
    return nodes, origins


def contracted(function, argument):
    """Return the pair of what a redex leads to and its origins. Raise TooLarge.

    Both arguments are such pairs, too; the function is the body of the
    abstraction.
    """
    body, body_origins = function
    value, value_origins = argument
    nodes = put(body, value)
    known = body_origins + value_origins
    return nodes, [known[origin] for origin in put_origins(body, value)]


def reduced(term, chosen):
    """Return where the steps at the chosen redexes lead, and the origins.

    The origins are, for each node, the index of the node of the term that it
    is a copy of. Raise TooLarge if what a part of the term leads to is too
    large; the abstractions of the chosen redexes do not count as parts.
    """
    pending = []
    # The nodes from the last one on, so that the parts of each are reduced.
    for at in reversed(range(len(term))):
        head = (term[at],), [at]
        if term[at] == "app":
            function = pending.pop()
            argument = pending.pop()
            if at in chosen:
                pending.append(contracted(function, argument))
            else:
                pending.append(joined(head, [function, argument]))
        elif term[at] != "lam":
            checked(head[0])
            pending.append(head)
        elif at - 1 not in chosen:
            pending.append(joined(head, [pending.pop()]))
    return pending.pop()


def develop(term, times):
    """Return the development of a term, so many times. Raise TooLarge."""
    for _ in range(times):
        term, _ = reduced(term, all_redexes(term))
    return checked(term)


def idle_redexes(term, chosen):
    """Return the list of the chosen redexes whose arguments go away.

    The variable of such a redex does not occur in what its body leads to.
    """
    levels = depths(term)
    found = []
    # For each part, the abstractions whose variables occur in what it leads
    # to: the bits of an integer, numbered by the depths of the abstractions.
    pending = []
    for at in reversed(range(len(term))):
        if term[at] == "app":
            function = pending.pop()
            argument = pending.pop()
            if at in chosen and function & (1 << levels[at]) == 0:
                found.append(at)
                pending.append(function)
            else:
                pending.append(function | argument)
        elif term[at] != "lam":
            level = levels[at] - 1 - term[at]
            pending.append(1 << level if level >= 0 else 0)
    return found


def without_lost(term, chosen):
    """Return the choice without the redexes in arguments that go away."""
    lost = {}
    for at in idle_redexes(term, chosen):
        middle = end_of(term, at + 1)
        for inner in range(middle, end_of(term, middle)):
            lost[inner] = True
    return {at: True for at in chosen if at not in lost}


def road_of(term, chosen):
    """Return a road to where the steps at the chosen redexes lead.

    What is inside a redex is stepped before it, unless it goes away: so no
    term on the road has more nodes than its first and its last one together.
    A step changes no place around it, in front of it or behind it.
    """
    found = places(term)
    order = sorted([(end_of(term, at), -at) for at in without_lost(term, chosen)])
    return [found[-negative] for _, negative in order]


def way(term):
    """Return a road from a term to its development. Raise TooLarge."""
    chosen = all_redexes(term)
    reduced(term, chosen)
    road = road_of(term, chosen)
    # The first and the last term together may have more than MOST_NODES nodes.
    follow(term, road)
    return road


def crossed(term, chosen):
    """Return where the steps at the chosen redexes lead, and a choice there.

    The choice consists of the residuals of the redexes that are not chosen.
    The steps at it lead to the development of the term. Raise TooLarge.
    """
    after, origins = reduced(term, without_lost(term, chosen))
    others = {at: True for at in redex_indexes(term) if at not in chosen}
    return after, {at: True for at, origin in enumerate(origins) if origin in others}


def carried(term, at, times):
    """Carry the step at a redex over to developments. Raise TooLarge.

    Let the step lead from s to t. Return the development of t, so many times,
    and a choice there, which leads to the development of s, once more.
    """
    after, back = crossed(term, {at: True})
    for _ in range(times):
        # On to a development of s, and from there to the same one of t.
        before, chosen = crossed(after, back)
        after, back = crossed(before, chosen)
    return after, back


def road_on(terms, road, times):
    """Return a road on from where a road leads. Raise TooLarge.

    The terms are those that the road passes. The result leads to the
    development of the first one, so many times; the road is not longer.
    """
    found = []
    for number in reversed(range(len(road))):
        at = redex_at(terms[number], road[number])
        term, back = carried(terms[number], at, len(road) - 1 - number)
        found.extend(road_of(term, back))
    term = develop(terms[0], len(road))
    for _ in range(times - len(road)):
        found.extend(way(term))
        term = develop(term, 1)
    follow(terms[-1], found)
    return found


def meet(term, first, second):
    """Return where two roads meet, and the roads on from where they lead.

    Raise NoRedex, TooLarge.
    """
    firsts = passed(term, first)
    seconds = passed(term, second)
    times = max(len(first), len(second))
    goal = develop(term, times)
    return goal, road_on(firsts, first, times), road_on(seconds, second, times)
