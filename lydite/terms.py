"""Terms: tuples of nodes in prefix order (points 3, 5 and 6).

No function here calls itself, because a term may be nested deeper than
Python allows calls to be nested.
"""

from lydite.errors import TooLarge

MOST_NODES = 1000
MOST_VARIABLE = 1000000

# Kinds and combinations are tuples in prefix order, too: "to" stands in kinds.
PART_COUNTS = {"lam": 1, "app": 2, "to": 2}


def is_number(value, most):
    """Return True if the value is an integer from 0 to the greatest one."""
    # True and False are ints for Python, but no integers for the document.
    if isinstance(value, bool) or not isinstance(value, int):
        return False
    return 0 <= value <= most


def is_node(value, words):
    """Return True if the value is a variable or one of the words."""
    if isinstance(value, str):
        return value in words
    return is_number(value, MOST_VARIABLE)


def part_count(node):
    """Return how many terms follow a node as its parts."""
    return PART_COUNTS.get(node, 0)


def is_written(value, words):
    """Return True if the value is a tuple of at most MOST_NODES nodes in order.

    Each node is a variable or one of the words, followed by its parts.
    """
    if not isinstance(value, tuple) or len(value) > MOST_NODES:
        return False
    missing = 1
    for node in value:
        if missing == 0 or not is_node(node, words):
            return False
        missing += part_count(node) - 1
    return missing == 0


def is_term(value):
    """Return True if the value is a term of at most MOST_NODES nodes."""
    return is_written(value, ("lam", "app"))


def check_size(size):
    """Raise TooLarge if a term of this size is too large."""
    if size > MOST_NODES:
        raise TooLarge(f"a term has more than {MOST_NODES} nodes")


def checked(term):
    """Return the term itself. Raise TooLarge if it is too large."""
    check_size(len(term))
    for node in term:
        if isinstance(node, int) and node > MOST_VARIABLE:
            raise TooLarge(f"a term has a variable greater than {MOST_VARIABLE}")
    return term


def abstraction(body):
    """Return the abstraction with the body. Raise TooLarge."""
    return checked(("lam",) + body)


def application(function, argument):
    """Return the application of the function to the argument. Raise TooLarge."""
    return checked(("app",) + function + argument)


def depths(term):
    """Return the list of the depths of all places of a term, in order."""
    found = []
    pending = [0]
    for node in term:
        depth = pending.pop()
        found.append(depth)
        if node == "lam":
            pending.append(depth + 1)
        elif node == "app":
            pending.append(depth)
            pending.append(depth)
    return found


def stands_free(node, depth):
    """Return True if a node at a place of this depth is a free variable."""
    return isinstance(node, int) and node >= depth


def free(term):
    """Return the ascending list of the numbers of the free variables."""
    numbers = set()
    for node, depth in zip(term, depths(term)):
        if stands_free(node, depth):
            numbers.add(node - depth)
    return sorted(numbers)


def lifted_nodes(term, count):
    """Return the list of the nodes of a term that is lifted by a number."""
    nodes = []
    for node, depth in zip(term, depths(term)):
        if stands_free(node, depth):
            nodes.append(node + count)
        else:
            nodes.append(node)
    return nodes


def lift(term, count):
    """Return the term lifted by a number. Raise TooLarge."""
    return checked(tuple(lifted_nodes(term, count)))


def unlifted(term, count):
    """Return the term that gives this one if it is lifted by a number, or None."""
    for node, depth in zip(term, depths(term)):
        if stands_free(node, depth) and node - depth < count:
            return None
    return tuple(lifted_nodes(term, -count))


def put(term, value):
    """Return the term with the value put into it. Raise TooLarge."""
    nodes = []
    for node, depth in zip(term, depths(term)):
        if not stands_free(node, depth):
            nodes.append(node)
        elif node > depth:
            nodes.append(node - 1)
        else:
            nodes.extend(lifted_nodes(value, depth))
            # Hundreds of copies of a long value are not worth writing out.
            check_size(len(nodes))
    return checked(tuple(nodes))


def put_origins(term, value):
    """Return where the nodes of put(term, value) come from.

    The list has, for each of these nodes, the index of the node of
    term + value that it is a copy of.
    """
    of_value = list(range(len(term), len(term) + len(value)))
    found = []
    for at, depth in enumerate(depths(term)):
        if term[at] == depth:
            found.extend(of_value)
        else:
            found.append(at)
    return found
