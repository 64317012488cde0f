"""Arguments that tell normal terms apart (points 26 and 28 to 33)."""

from lydite.errors import BadCrowd, TooLarge
from lydite.heads import with_head
from lydite.looks import check_settled, positions
from lydite.terms import checked

MOST_ARGUMENTS = 400
IDENTITY = ("lam", 0)


def projection(index, count):
    """Return the projection with this index of so many arguments."""
    return with_head(count, count - 1 - index, [])


def tupler(count):
    """Return the tupler of so many arguments. Raise TooLarge."""
    return with_head(count + 1, 0, [(count - at,) for at in range(count)])


def applied(term, arguments):
    """Return the term applied to the arguments, one after the other. Raise TooLarge."""
    nodes = ["app"] * len(arguments) + list(term)
    for argument in arguments:
        nodes.extend(argument)
    return checked(tuple(nodes))


def needs_of(found):
    """Return a dict with the needs of the levels at the positions of a crowd."""
    needs = {}
    for position in found:
        for level, many in position.heads:
            needs[level] = max(many, needs.get(level, 0))
    return needs


def widths_of(found):
    """Return a dict with the widths of the levels that have one."""
    widths = needs_of(found)
    heads = found[-1].heads
    # The ranks of the heads at the end whose levels have got their widths.
    ranks = {}
    levels = list({pair[0]: True for pair in heads})
    for level in levels:
        counts = [many for other, many in heads if other == level]
        width = widths[level]
        while any([width - many in ranks for many in counts]):
            width += 1
        widths[level] = width
        for many in counts:
            ranks[width - many] = True
    return widths


def tuplers_for(position, widths):
    """Return the arguments for the abstractions of the look of a position."""
    found = []
    for level in range(position.first_level, position.end_level):
        if level in widths:
            found.append(tupler(widths[level]))
        else:
            found.append(IDENTITY)
    return found


def arguments_on_the_way(position, widths):
    """Return the arguments that lead from a position before the end to the next one."""
    level, many = position.heads[0]
    width = widths[level]
    return [IDENTITY] * (width - many) + [projection(position.turn, width)]


def groups_of(heads):
    """Return the list of the groups of the terms, by their heads at the end."""
    numbers = {}
    for pair in heads:
        numbers.setdefault(pair, len(numbers))
    return [numbers[pair] for pair in heads]


def arguments_at_end(heads, widths):
    """Return the arguments that lead from the end to the projections of the groups."""
    groups = groups_of(heads)
    count = max(groups) + 1
    by_rank = {}
    for group, (level, many) in zip(groups, heads):
        by_rank[widths[level] - many] = (group, widths[level])
    most = max(by_rank)
    found = []
    for rank in range(most + 1):
        if rank in by_rank:
            group, width = by_rank[rank]
            around = ("lam",) * (width + most - rank)
            found.append(checked(around + projection(group, count)))
        else:
            found.append(IDENTITY)
    return found


def separate(crowd):
    """Return the arguments that separate a crowd, and the groups of its terms.

    Raise BadCrowd, AllEqual, TooLarge.
    """
    found = positions(crowd)
    widths = widths_of(found)
    arguments = []
    for position in found:
        arguments.extend(tuplers_for(position, widths))
        if position.turn is not None:
            arguments.extend(arguments_on_the_way(position, widths))
    heads = found[-1].heads
    arguments.extend(arguments_at_end(heads, widths))
    if len(arguments) > MOST_ARGUMENTS:
        raise TooLarge(f"there are more than {MOST_ARGUMENTS} arguments")
    return arguments, groups_of(heads)


def tell(first, second):
    """Return the arguments that separate two terms. Raise as separate."""
    arguments, _ = separate([first, second])
    return arguments


def choice(terms, answers):
    """Return the choice of a list of terms, with an answer for each of them.

    It calls itself less than MOST_CROWD deep. Raise TooLarge.
    """
    if len(terms) == 1:
        return answers[0]
    arguments, groups = separate(terms)
    for number in range(max(groups) + 1):
        members = [at for at, group in enumerate(groups) if group == number]
        arguments.append(choice([terms[at] for at in members], [answers[at] for at in members]))
    return applied((0,), arguments)


def choose(terms):
    """Return a term that tells each of the terms. Raise BadCrowd, TooLarge."""
    check_settled(terms, 1)
    if len(terms) != len(set(terms)):
        raise BadCrowd("two of the terms are equal")
    answers = [projection(at, len(terms)) for at in range(len(terms))]
    return checked(("lam",) + choice(terms, answers))
