"""Numbers, lists and a table of terms (points 37 to 39)."""

from lydite.apart import applied
from lydite.errors import NoName, NoNumber
from lydite.notation import parse
from lydite.order import normal
from lydite.places import end_of
from lydite.terms import checked, lift, put, unlifted

MOST_NUMBER = 400

# For each name the text of its term, and the names of the table for which the
# free variables x and y stand in it.
TABLE = {
    "true": ("\\a b. a", ()),
    "false": ("\\a b. b", ()),
    "not": ("\\a. a x y", ("false", "true")),
    "and": ("\\a b. a b a", ()),
    "or": ("\\a b. a a b", ()),
    "pair": ("\\a b c. c a b", ()),
    "first": ("\\a. a x", ("true",)),
    "second": ("\\a. a x", ("false",)),
    "zero": ("\\a b. b", ()),
    "succ": ("\\a b c. b (a b c)", ()),
    "add": ("\\a b c d. a c (b c d)", ()),
    "mul": ("\\a b c. a (b c)", ()),
    "power": ("\\a b c d. b a c d", ()),
    "pred": ("\\a b c. a (\\d e. e (d b)) (\\d. c) (\\d. d)", ()),
    "sub": ("\\a b. b x a", ("pred",)),
    "iszero": ("\\a. a (\\b. x) y", ("false", "true")),
    "leq": ("\\a b. x (y a b)", ("iszero", "sub")),
    "nil": ("\\a b. b", ()),
    "cons": ("\\a b c d. c a (b c d)", ()),
    "append": ("\\a b c d. a c (b c d)", ()),
    "fix": ("(\\a b. b (a a b)) (\\a b. b (a a b))", ()),
}


def number(value):
    """Return the term of a number."""
    return checked(("lam", "lam") + ("app", 1) * value + (0,))


def value_of(term):
    """Return the number whose term this is. Raise NoNumber."""
    value = term.count("app")
    if term != ("lam", "lam") + ("app", 1) * value + (0,):
        raise NoNumber("the term is the term of no number")
    return value


def list_of(terms):
    """Return the term of the list of some terms. Raise TooLarge."""
    nodes = ["lam", "lam"]
    for term in terms:
        nodes.extend(["app", "app", 1])
        nodes.extend(lift(term, 2))
    return checked(tuple(nodes) + (0,))


def items_of(term):
    """Return the list of the terms whose list this term is, or None."""
    if term[:2] != ("lam", "lam"):
        return None
    found = []
    at = 2
    while term[at] != 0:
        if term[at:at + 3] != ("app", "app", 1):
            return None
        start = at + 3
        at = end_of(term, start)
        item = unlifted(term[start:at], 2)
        if item is None:
            return None
        found.append(checked(item))
    return found


def names():
    """Return the list of the names of the table."""
    return list(TABLE)


def named(name):
    """Return the term with a name of the table. Raise NoName."""
    if name not in TABLE:
        raise NoName("the name does not stand in the table")
    text, others = TABLE[name]
    term = parse(text, ["x", "y"])
    # Each value is closed, and stands in place of the first free variable left.
    for other in others:
        term = put(term, named(other))
    return term


def run(name, numbers, steps):
    """Return what `normal` returns for a term of the table, applied to numbers.

    Raise NoName, TooLarge, OutOfSteps.
    """
    function = named(name)
    return normal(applied(function, [number(value) for value in numbers]), steps)
