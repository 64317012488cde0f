"""What several tests share: small terms, long terms, and a slow second opinion.

The second opinion works on trees, nested tuples such as ("app", ("lam", 0), 3),
and follows the words of the document by functions that call themselves.
"""

import sys


def trees(size, variables):
    """Return all trees of a size over the variables."""
    if size == 1:
        return list(variables)
    found = [("lam", body) for body in trees(size - 1, variables)]
    for left in range(1, size - 1):
        for function in trees(left, variables):
            for argument in trees(size - 1 - left, variables):
                found.append(("app", function, argument))
    return found


def trees_up_to(size, variables):
    return [tree for n in range(1, size + 1) for tree in trees(n, variables)]


def flat(tree):
    """Return the term of a tree."""
    if isinstance(tree, int):
        return (tree,)
    return (tree[0],) + tuple(node for part in tree[1:] for node in flat(part))


def mapped(tree, change, depth=0):
    """Return the tree with change(n, depth) in place of each variable n."""
    if isinstance(tree, int):
        return change(tree, depth)
    inner = depth + 1 if tree[0] == "lam" else depth
    return (tree[0],) + tuple(mapped(part, change, inner) for part in tree[1:])


def free_of(tree, depth=0):
    """Return the set of the free variables of a tree."""
    if isinstance(tree, int):
        return {tree - depth} if tree >= depth else set()
    inner = depth + 1 if tree[0] == "lam" else depth
    return set().union(*[free_of(part, inner) for part in tree[1:]])


def lifted(tree, count):
    return mapped(tree, lambda n, depth: n + count if n >= depth else n)


def value_put(tree, value):
    def change(n, depth):
        if n < depth:
            return n
        if n == depth:
            return lifted(value, depth)
        return n - 1
    return mapped(tree, change)


def parts(tree, place=""):
    """Return the pairs of a place and the part there, in order."""
    found = [(place, tree)]
    if not isinstance(tree, int):
        letters = "b" if tree[0] == "lam" else "fa"
        for letter, part in zip(letters, tree[1:]):
            found.extend(parts(part, place + letter))
    return found


def with_part(tree, place, value):
    """Return the tree with the value as its part at a place."""
    if place == "":
        return value
    at = 2 if place[0] == "a" else 1
    return tree[:at] + (with_part(tree[at], place[1:], value),) + tree[at + 1:]


def lam_chain(size, variable=0):
    """Return a term of this size: abstractions around a variable."""
    return ("lam",) * (size - 1) + (variable,)


def function_chain(size, variable=0):
    """Return a term of this odd size, nested in the functions."""
    many = (size - 1) // 2
    return ("app",) * many + (variable,) * (many + 1)


def argument_chain(size, variable=0):
    """Return a term of this odd size, nested in the arguments."""
    return ("app", variable) * ((size - 1) // 2) + (variable,)


def long_terms(size):
    """Return terms of this size, nested in several ways.

    Their only free variable is 0, if they have one.
    """
    odd = size if size % 2 == 1 else size - 1
    front = ("lam",) * (size - odd)
    many = (size - 1) // 3
    return [
        lam_chain(size),
        front + function_chain(odd),
        front + argument_chain(odd),
        ("lam", "app", 0) * many + lam_chain(size - 3 * many),
    ]


def with_little_stack(function, *arguments):
    """Return what the function returns, allowed only a few nested calls."""
    depth = 0
    frame = sys._getframe()
    while frame is not None:
        depth += 1
        frame = frame.f_back
    limit = sys.getrecursionlimit()
    sys.setrecursionlimit(depth + 40)
    try:
        return function(*arguments)
    finally:
        sys.setrecursionlimit(limit)
