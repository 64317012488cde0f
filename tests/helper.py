"""What several tests share: small terms, long terms, and a slow second opinion.

The second opinion works on trees, nested tuples such as ("app", ("lam", 0), 3),
and follows the words of the document by functions that call themselves. In a
marked tree each abstraction has a word of its own: "lam0", "lam1", ....
"""

import random
import sys


def trees(size, variables):
    """Return all trees of a size over the variables."""
    if size == 1:
        return list(variables)
    found = [("lam", body) for body in trees(size - 1, variables)]
    for left in range(1, size - 1):
        for function in trees(left, variables):
            for argument in trees(size - 1 - left, variables):
                found.append(("app", function, argument))
    return found


def trees_up_to(size, variables):
    return [tree for n in range(1, size + 1) for tree in trees(n, variables)]


def flat(tree):
    """Return the term of a tree."""
    if isinstance(tree, int):
        return (tree,)
    return (tree[0],) + tuple(node for part in tree[1:] for node in flat(part))


def is_lam(tree):
    return not isinstance(tree, int) and tree[0].startswith("lam")


def tree_of(term):
    """Return the tree of a term."""
    def read(at):
        if isinstance(term[at], int):
            return term[at], at + 1
        found, at, many = [term[at]], at + 1, 1 if term[at] == "lam" else 2
        for _ in range(many):
            part, at = read(at)
            found.append(part)
        return tuple(found), at
    return read(0)[0]


def mapped(tree, change, depth=0):
    """Return the tree with change(n, depth) in place of each variable n."""
    if isinstance(tree, int):
        return change(tree, depth)
    inner = depth + 1 if is_lam(tree) else depth
    return (tree[0],) + tuple(mapped(part, change, inner) for part in tree[1:])


def free_of(tree, depth=0):
    """Return the set of the free variables of a tree."""
    if isinstance(tree, int):
        return {tree - depth} if tree >= depth else set()
    inner = depth + 1 if is_lam(tree) else depth
    return set().union(*[free_of(part, inner) for part in tree[1:]])


def lifted(tree, count):
    return mapped(tree, lambda n, depth: n + count if n >= depth else n)


def value_put(tree, value):
    def change(n, depth):
        if n < depth:
            return n
        if n == depth:
            return lifted(value, depth)
        return n - 1
    return mapped(tree, change)


def parts(tree, place=""):
    """Return the pairs of a place and the part there, in order."""
    found = [(place, tree)]
    if not isinstance(tree, int):
        letters = "b" if is_lam(tree) else "fa"
        for letter, part in zip(letters, tree[1:]):
            found.extend(parts(part, place + letter))
    return found


def with_part(tree, place, value):
    """Return the tree with the value as its part at a place."""
    if place == "":
        return value
    at = 2 if place[0] == "a" else 1
    return tree[:at] + (with_part(tree[at], place[1:], value),) + tree[at + 1:]


def part_at(tree, place):
    for letter in place:
        tree = tree[2 if letter == "a" else 1]
    return tree


def redexes_of(tree):
    """Return the list of the redexes of a tree, marked or not, in order."""
    return [
        place for place, part in parts(tree)
        if not isinstance(part, int) and part[0] == "app" and is_lam(part[1])
    ]


def stepped(tree, place):
    """Return where the step at a place of a tree, marked or not, leads."""
    _, function, argument = part_at(tree, place)
    return with_part(tree, place, value_put(function[1], argument))


def is_needless(part):
    """Return True if a tree is a needless abstraction."""
    if isinstance(part, int) or part[0] != "lam" or isinstance(part[1], int):
        return False
    body = part[1]
    return body[0] == "app" and body[2] == 0 and 0 not in free_of(body[1])


def needless_of(tree):
    """Return the list of the needless abstractions of a tree, in order."""
    return [place for place, part in parts(tree) if is_needless(part)]


def removed(tree, place):
    """Return the tree without the needless abstraction at a place."""
    return with_part(tree, place, value_put(part_at(tree, place)[1][1], "no value"))


def shrunk(tree):
    """Return the tree without its needless abstractions."""
    while needless_of(tree):
        tree = removed(tree, needless_of(tree)[0])
    return tree


def marked(tree):
    """Return the tree with different marks."""
    count = [0]

    def mark(part):
        if isinstance(part, int):
            return part
        word = part[0]
        if word == "lam":
            word = f"lam{count[0]}"
            count[0] += 1
        return (word,) + tuple(mark(inner) for inner in part[1:])
    return mark(tree)


def mark_at(tree, place):
    """Return the mark of the abstraction of a redex of a marked tree."""
    return part_at(tree, place)[1][0]


def with_mark(tree, mark):
    """Return the redexes of a marked tree whose abstraction has the mark."""
    return [place for place in redexes_of(tree) if mark_at(tree, place) == mark]


def random_tree(source, size, free_count, depth=0):
    """Return a tree of a size, with many redexes, by a source of random numbers."""
    if size == 1:
        # Rather a variable of the innermost abstractions than another one.
        if depth > 0 and source.random() < 0.7:
            return source.randrange(min(depth, 2))
        return source.randrange(max(depth + free_count, 1))
    if size == 2 or source.random() < 0.3:
        return ("lam", random_tree(source, size - 1, free_count, depth + 1))
    if size >= 4 and source.random() < 0.5:
        left = source.randint(1, size - 3)
        body = random_tree(source, left, free_count, depth + 1)
        return ("app", ("lam", body), random_tree(source, size - 2 - left, free_count, depth))
    left = source.randint(1, size - 2)
    function = random_tree(source, left, free_count, depth)
    return ("app", function, random_tree(source, size - 1 - left, free_count, depth))


def random_trees(seed, count, size, free_count=2):
    """Return trees of up to a size, always the same ones for the same seed."""
    source = random.Random(seed)
    return [random_tree(source, source.randint(3, size), free_count) for _ in range(count)]


def random_normal(source, size, depth=0):
    """Return a normal tree of about a size without free variables but the depth's."""
    count = source.choice((0, 1, 1, 2, 3)) if depth > 0 else source.randint(1, 3)
    depth += count
    tree = source.randrange(depth)
    many = min(source.choice((0, 1, 1, 2, 2, 3)), size // 2)
    for _ in range(many):
        tree = ("app", tree, random_normal(source, size // many - 2, depth))
    for _ in range(count):
        tree = ("lam", tree)
    return tree


def random_settled(source, size):
    """Return a closed fully normal tree of about a size."""
    return shrunk(random_normal(source, size))


def random_crowd(source, size):
    """Return closed fully normal trees, at most 12 and sometimes none or all equal."""
    trees = [random_settled(source, size) for _ in range(source.randint(2, 12))]
    if source.random() < 0.7:
        # Terms that differ only inside: put into one term, at one place.
        around = random_settled(source, size)
        place, _ = source.choice(parts(around))
        trees = [shrunk(with_part(around, place, tree)) for tree in trees]
    return [tree for tree in trees if not redexes_of(tree)]


def settled_trees(size):
    """Return all closed fully normal trees up to a size."""
    return [
        tree for tree in trees_up_to(size, range(size - 1))
        if not free_of(tree) and not redexes_of(tree) and not needless_of(tree)
    ]


def random_road(source, tree, most):
    """Return a road of at most so many places from a tree, and its end."""
    road = []
    while len(road) < most and redexes_of(tree):
        road.append(source.choice(redexes_of(tree)))
        tree = stepped(tree, road[-1])
        if len(flat(tree)) > 300:
            break
    return road, tree


class Spot:
    """A position of a crowd of trees, by the words of point 28.

    A term is a pair of a tree and the levels of its free variables.
    """

    def __init__(self, terms, first):
        self.first = first
        self.own, self.heads, self.rows = [], [], []
        for tree, levels in terms:
            own, row = 0, []
            while is_lam(tree):
                tree, levels, own = tree[1], [first + own] + levels, own + 1
            while not isinstance(tree, int):
                tree, row = tree[1], [(tree[2], levels)] + row
            self.own.append(own)
            self.heads.append(levels[tree])
            self.rows.append(row)
        self.count = max(self.own)
        for own, row in zip(self.own, self.rows):
            row.extend((0, [level]) for level in range(first + own, first + self.count))
        self.forms = list(zip(self.heads, map(len, self.rows)))
        self.turn = None
        if len(set(self.forms)) == 1:
            columns = enumerate(zip(*self.rows))
            self.turn = next(i for i, column in columns if len(set(map(leveled, column))) > 1)


def leveled(term):
    """Return the tree with names of levels in place of its free variables."""
    tree, levels = term
    return mapped(tree, lambda n, depth: n if n < depth else f"level {levels[n - depth]}")


def spots(trees):
    """Return the positions on the way to the end of a crowd of trees."""
    found = [Spot([(tree, []) for tree in trees], 0)]
    while found[-1].turn is not None:
        last = found[-1]
        found.append(Spot([row[last.turn] for row in last.rows], last.first + last.count))
    return found


def lam_chain(size, variable=0):
    """Return a term of this size: abstractions around a variable."""
    return ("lam",) * (size - 1) + (variable,)


def function_chain(size, variable=0):
    """Return a term of this odd size, nested in the functions."""
    many = (size - 1) // 2
    return ("app",) * many + (variable,) * (many + 1)


def argument_chain(size, variable=0):
    """Return a term of this odd size, nested in the arguments."""
    return ("app", variable) * ((size - 1) // 2) + (variable,)


def long_terms(size):
    """Return terms of this size, nested in several ways.

    Their only free variable is 0, if they have one.
    """
    odd = size if size % 2 == 1 else size - 1
    front = ("lam",) * (size - odd)
    many = (size - 1) // 3
    return [
        lam_chain(size),
        front + function_chain(odd),
        front + argument_chain(odd),
        ("lam", "app", 0) * many + lam_chain(size - 3 * many),
    ]


def with_little_stack(function, *arguments):
    """Return what the function returns, allowed only a few nested calls."""
    depth = 0
    frame = sys._getframe()
    while frame is not None:
        depth += 1
        frame = frame.f_back
    limit = sys.getrecursionlimit()
    sys.setrecursionlimit(depth + 40)
    try:
        return function(*arguments)
    finally:
        sys.setrecursionlimit(limit)
