import itertools
import unittest

from lydite.apart import applied
from lydite.data import MOST_NUMBER, items_of, list_of, named, names, number, run, value_of
from lydite.errors import LyditeError, NoName, NoNumber, OutOfSteps, TooLarge
from lydite.notation import parse
from lydite.order import normal
from lydite.roads import follow, redexes
from lydite.terms import free, is_term, lift
from tests import helper

# The table of point 38, in its words.
TABLE = (
    ("true", "\\a b. a"), ("false", "\\a b. b"), ("not", "\\a. a false true"), ("and", "\\a b. a b a"),
    ("or", "\\a b. a a b"), ("pair", "\\a b c. c a b"), ("first", "\\a. a true"), ("second", "\\a. a false"),
    ("zero", "\\a b. b"), ("succ", "\\a b c. b (a b c)"), ("add", "\\a b c d. a c (b c d)"), ("mul", "\\a b c. a (b c)"),
    ("power", "\\a b c d. b a c d"), ("pred", "\\a b c. a (\\d e. e (d b)) (\\d. c) (\\d. d)"), ("sub", "\\a b. b pred a"),
    ("iszero", "\\a. a (\\b. false) true"), ("leq", "\\a b. iszero (sub a b)"), ("nil", "\\a b. b"),
    ("cons", "\\a b c d. c a (b c d)"), ("append", "\\a b c d. a c (b c d)"),
    ("fix", "(\\a b. b (a a b)) (\\a b. b (a a b))"),
)
# Term by term, as they must be, node by node.
LAM2, LAM3, LAM4 = ("lam",) * 2, ("lam",) * 3, ("lam",) * 4
TRUE, FALSE = LAM2 + (1,), LAM2 + (0,)
PRED = LAM3 + (
    "app", "app", "app", 2, "lam", "lam", "app", 0, "app", 1, 3, "lam", 1, "lam", 0)
ISZERO = ("lam", "app", "app", 0, "lam") + FALSE + TRUE
SUB = LAM2 + ("app", "app", 0) + PRED + (1,)
HALF = LAM2 + ("app", 0, "app", "app", 1, 1, 0)
NODES = {
    "true": TRUE, "false": FALSE, "not": ("lam", "app", "app", 0) + FALSE + TRUE, "and": LAM2 + ("app", "app", 1, 0, 1),
    "or": LAM2 + ("app", "app", 1, 1, 0), "pair": LAM3 + ("app", "app", 0, 2, 1), "first": ("lam", "app", 0) + TRUE,
    "second": ("lam", "app", 0) + FALSE, "zero": FALSE, "succ": LAM3 + ("app", 1, "app", "app", 2, 1, 0),
    "add": LAM4 + ("app", "app", 3, 1, "app", "app", 2, 1, 0), "mul": LAM3 + ("app", 2, "app", 1, 0),
    "power": LAM4 + ("app", "app", "app", 2, 3, 1, 0), "pred": PRED, "sub": SUB, "iszero": ISZERO,
    "leq": LAM2 + ("app",) + ISZERO + ("app", "app") + SUB + (1, 0), "nil": FALSE,
    "cons": LAM4 + ("app", "app", 1, 3, "app", "app", 2, 1, 0), "append": LAM4 + ("app", "app", 3, 1, "app", "app", 2, 1, 0),
    "fix": ("app",) + HALF + HALF,
}


def term_of(text):
    return parse(text, ["x", "y", "z"])


def items(tree):
    """Return the terms whose list a tree is, by the words of point 37, or None."""
    if not helper.is_lam(tree) or not helper.is_lam(tree[1]):
        return None
    rest, found = tree[1][1], []
    while rest != 0:
        if isinstance(rest, int) or rest[0] != "app" or isinstance(rest[1], int):
            return None
        if rest[1][0] != "app" or rest[1][1] != 1 or helper.free_of(rest[1][2]) & {0, 1}:
            return None
        found.append(helper.flat(helper.mapped(rest[1][2], lambda n, depth: n - 2 if n >= depth else n)))
        rest = rest[2]
    return found


class Numbers(unittest.TestCase):
    def test_examples(self):
        self.assertEqual(MOST_NUMBER, 400)
        for value, text in ((0, "\\a b. b"), (1, "\\a b. a b"), (2, "\\a b. a (a b)"), (3, "\\a b. a (a (a b))")):
            self.assertEqual(number(value), term_of(text))
            self.assertEqual(value_of(term_of(text)), value)

    def test_all_numbers(self):
        for value in range(499):
            term = number(value)
            self.assertEqual(len(term), 2 * value + 3)
            self.assertIs(is_term(term), True)
            self.assertEqual(helper.with_little_stack(value_of, term), value)

    def test_numbers_beyond_the_greatest_one(self):
        self.assertEqual(len(number(498)), 999)
        for value in (499, 500, 1000):
            self.assertRaises(TooLarge, number, value)
        self.assertEqual(value_of(("lam", "lam") + ("app", 1) * 498 + (0,)), 498)

    def test_nearly_numbers(self):
        for text in (
            "x", "\\a. a", "\\a b. a", "\\a b. b a", "\\a b. b b", "\\a b. a a", "\\a b. a b b", "\\a b. a (b b)", "\\a b. x b",
            "\\a b. a x", "\\a b c. b c", "\\a. (\\b. b) a", "\\a b. a (\\c. b)", "x (\\a b. b)", "\\a b. a (a a)", "\\a b. a a b",
            "(\\a. a) (\\a b. b)", "\\a b. a (a x)", "\\a. a (\\b. b)",
        ):
            self.assertRaises(NoNumber, value_of, term_of(text))

    def test_one_node_exchanged(self):
        for value in (0, 1, 2, 5):
            term = number(value)
            for at, node in itertools.product(range(len(term)), ("lam", "app", 0, 1, 2, 7)):
                other = term[:at] + (node,) + term[at + 1:]
                if is_term(other) and other != term:
                    self.assertRaises(NoNumber, value_of, other)

    def test_exactly_the_numbers_of_all_small_terms(self):
        found = [
            tree for tree in helper.trees_up_to(7, (0, 1, 2)) if not self.raises(value_of, helper.flat(tree))
        ]
        self.assertEqual([helper.flat(tree) for tree in found], [number(0), number(1), number(2)])

    def raises(self, function, term):
        try:
            function(term)
        except NoNumber:
            return True
        return False

    def test_long_terms(self):
        for term in helper.long_terms(1000) + helper.long_terms(999):
            self.assertRaises(NoNumber, helper.with_little_stack, value_of, term)


class Lists(unittest.TestCase):
    def test_examples(self):
        for terms, wanted in (
            ([], "\\a b. b"), ([(0,)], "\\a b. a x b"), ([(0,), (2,)], "\\a b. a x (a z b)"),
            ([("lam", 0)], "\\a b. a (\\c. c) b"), ([("lam", 1), ("app", 0, 1)], "\\a b. a (\\c. x) (a (x y) b)"),
            ([term_of("\\a b. b")] * 2, "\\a b. a (\\c d. d) (a (\\c d. d) b)"),
        ):
            before = list(terms)
            self.assertEqual(list_of(terms), term_of(wanted))
            self.assertEqual(items_of(term_of(wanted)), terms)
            self.assertEqual(terms, before)

    def test_lists_of_small_terms(self):
        small = [helper.flat(tree) for tree in helper.trees_up_to(4, (0, 1, 2))]
        for many in (1, 2, 3):
            for first in range(0, len(small), 3):
                terms = (small[first:] + small)[:many]
                found = list_of(terms)
                self.assertEqual(len(found), 3 + sum(len(term) + 3 for term in terms))
                self.assertEqual(items_of(found), terms)
                self.assertIsNot(items_of(found), terms)

    def test_it_is_what_cons_and_nil_lead_to(self):
        terms = [number(2), number(0), number(1)]
        whole = named("nil")
        for term in reversed(terms):
            whole = applied(named("cons"), [term, whole])
        self.assertEqual(normal(whole, 100)[0], list_of(terms))
        joined = applied(named("append"), [list_of(terms), list_of(terms[:2])])
        self.assertEqual(normal(joined, 100)[0], list_of(terms + terms[:2]))

    def test_terms_that_are_no_list(self):
        for text in (
            "x", "\\a. a", "\\a b. a", "\\a b. a b", "\\a b. a x", "\\a b. a x a", "\\a b. b x b", "\\a b. a x b b", "\\a b. a x (a y)",
            "\\a b. a x (a y a)", "\\a b. a x (b y b)", "\\a b. x y b", "\\a b c. b x c", "\\a b. a x (\\c. b)", "x (\\a b. b)",
            "\\a. (\\b. b) x", "\\a b. a (a x b)", "\\a b. a x y b",
            # an outer variable in an element
            "\\a b. a a b", "\\a b. a b b", "\\a b. a x (a b b)", "\\a b. a (\\c. a) b", "\\a b. a (\\c. c b) b", "\\a b. a (x a) b",
        ):
            with self.subTest(text=text):
                self.assertIs(items_of(term_of(text)), None)

    def test_one_node_exchanged(self):
        for terms in ([(0,)], [(3,), ("lam", 0)], [("lam", "app", 0, 1), (0,)]):
            term = list_of(terms)
            for at, node in itertools.product(range(len(term)), ("lam", "app", 0, 1, 2, 7)):
                other = term[:at] + (node,) + term[at + 1:]
                if is_term(other) and other != term:
                    found = items_of(other)
                    if found is not None:
                        self.assertEqual(list_of(found), other)
                        self.assertNotEqual(found, terms)

    def test_exactly_the_lists_of_all_small_terms(self):
        lists = 0
        for tree in helper.trees_up_to(8, (0, 1, 3)):
            wanted = items(tree)
            lists += wanted is not None
            self.assertEqual(items_of(helper.flat(tree)), wanted)
        self.assertGreater(lists, 3)

    def test_1000_and_1001_nodes(self):
        for sizes, fits in (([994], True), ([995], False), ([500, 491], True), ([500, 492], False), ([1] * 249, True), ([1] * 250, False)):
            terms = [helper.lam_chain(size, size + 3) for size in sizes]
            if fits:
                found = helper.with_little_stack(list_of, terms)
                self.assertEqual((len(found), is_term(found)), (3 + sum(sizes) + 3 * len(sizes), True))
                self.assertGreaterEqual(len(found), 999)
                self.assertEqual(helper.with_little_stack(items_of, found), terms)
            else:
                self.assertRaises(TooLarge, list_of, terms)
        for term in helper.long_terms(1000):
            self.assertRaises(TooLarge, list_of, [term])
            self.assertIs(helper.with_little_stack(items_of, term), None)

    def test_far_variables(self):
        self.assertEqual(list_of([(999998,)]), ("lam", "lam", "app", "app", 1, 1000000, 0))
        self.assertRaises(TooLarge, list_of, [(999999,)])
        self.assertRaises(TooLarge, list_of, [(0,), ("lam", 1000000)])
        self.assertEqual(items_of(("lam", "lam", "app", "app", 1, 1000000, 0)), [(999998,)])
        self.assertEqual(items_of(("lam", "lam", "app", "app", 1, "lam", 0, 0)), [("lam", 0)])
        self.assertEqual(lift((5,), 2), (7,))
        # By point 3 only the result counts, of terms somewhat beyond the limits.
        for size, fits in ((1000, True), (1001, False)):
            term = ("lam", "lam", "app", "app", 1) + helper.lam_chain(size) + (0,)
            if fits:
                self.assertEqual(items_of(term), [helper.lam_chain(size)])
            else:
                self.assertRaises(TooLarge, items_of, term)

    def test_a_changed_result_changes_no_later_one(self):
        term = list_of([(0,)])
        items_of(term).clear()
        items_of(list_of([])).append((1,))
        self.assertEqual((items_of(term), items_of(list_of([]))), ([(0,)], []))


class Table(unittest.TestCase):
    def test_names(self):
        self.assertEqual(names(), [name for name, _ in TABLE])

    def test_a_changed_list_changes_no_later_one(self):
        found = names()
        found.reverse()
        found.append("other")
        self.assertEqual(names(), [name for name, _ in TABLE])
        self.assertRaises(NoName, named, "other")
        self.assertIsNot(names(), names())

    def test_terms_by_their_words(self):
        known = {}
        for name, text in TABLE:
            for other in sorted(known, key=len, reverse=True):
                text = text.replace(other, "(" + known[other] + ")") if other not in ("or", "fix") else text
            known[name] = text
            self.assertEqual(named(name), parse(text, []))

    def test_terms_node_by_node(self):
        self.assertEqual(sorted(NODES), sorted(names()))
        for name, nodes in NODES.items():
            self.assertEqual(named(name), nodes)
            self.assertIs(is_term(nodes), True)
            self.assertEqual(free(nodes), [])

    def test_names_that_are_none(self):
        for name in ("", "True", "true ", " true", "tru", "truee", "xor", "one", "number", "a", "TRUE", "0", "add1", "names", "x"):
            self.assertRaises(NoName, named, name)
            self.assertRaises(NoName, run, name, [1], 5)

    def test_booleans(self):
        for first, second in itertools.product((True, False), repeat=2):
            mine, other = (TRUE if value else FALSE for value in (first, second))
            self.assertEqual(normal(applied(named("not"), [mine]), 20)[0], FALSE if first else TRUE)
            self.assertEqual(normal(applied(named("and"), [mine, other]), 20)[0], TRUE if first and second else FALSE)
            self.assertEqual(normal(applied(named("or"), [mine, other]), 20)[0], TRUE if first or second else FALSE)
        pair = applied(named("pair"), [number(3), number(5)])
        self.assertEqual(normal(applied(named("first"), [pair]), 20)[0], number(3))
        self.assertEqual(normal(applied(named("second"), [pair]), 20)[0], number(5))

    def test_fix(self):
        for f in ((0,), ("lam", 0), TRUE, ("lam", "app", 0, 1)):
            wanted = applied(f, [applied(named("fix"), [f])])
            self.assertEqual(redexes(applied(named("fix"), [f]))[0], "f")
            self.assertEqual(follow(applied(named("fix"), [f]), ["f", ""]), wanted)
        self.assertEqual(normal(applied(named("fix"), [("lam", "lam", 0)]), 10)[0], ("lam", 0))
        self.assertRaises(LyditeError, normal, applied(named("fix"), [(0,)]), 300)


class Run(unittest.TestCase):
    def check(self, name, numbers, wanted):
        """Check the result, and that it takes exactly as many steps."""
        before = list(numbers)
        whole = applied(named(name), [number(value) for value in numbers])
        found, steps = run(name, numbers, 20000)
        self.assertEqual((found, steps), (wanted, normal(whole, 20000)[1]))
        self.assertEqual(numbers, before)
        self.assertEqual(run(name, numbers, steps), (wanted, steps))
        if steps > 0:
            self.assertRaises(OutOfSteps, run, name, numbers, steps - 1)

    def test_arithmetic_on_small_numbers(self):
        for n in range(8):
            self.check("succ", [n], number(n + 1))
            self.check("pred", [n], number(max(n - 1, 0)))
            self.check("iszero", [n], TRUE if n == 0 else FALSE)
        for m, n in itertools.product(range(5), repeat=2):
            self.check("add", [m, n], number(m + n))
            self.check("mul", [m, n], number(m * n))
            self.check("sub", [m, n], number(max(m - n, 0)))
            self.check("leq", [m, n], TRUE if m <= n else FALSE)
        for m, n in itertools.product(range(4), range(1, 4)):
            self.check("power", [m, n], number(m ** n))
        for m in range(4):
            self.check("power", [m, 0], number(1))

    def test_other_terms(self):
        self.check("true", [3, 5], number(3))
        self.check("false", [3, 5], number(5))
        self.check("zero", [], number(0))
        self.check("zero", [4], ("lam", 0))
        self.check("add", [], named("add"))
        self.check("pair", [1, 2], ("lam", "app", "app", 0) + number(1) + number(2))
        self.assertEqual(run("succ", [], 0), (named("succ"), 0))

    def test_exact_steps(self):
        self.assertEqual(run("succ", [2], 3), (number(3), 3))
        self.assertRaises(OutOfSteps, run, "succ", [2], 2)
        self.assertRaises(OutOfSteps, run, "succ", [2], 0)
        self.assertEqual(run("add", [2, 3], 6), (number(5), 6))
        self.assertRaises(OutOfSteps, run, "add", [2, 3], 5)
        self.assertRaises(OutOfSteps, run, "fix", [], 0)

    def test_large_numbers(self):
        self.check("succ", [400], number(401))
        self.check("add", [200, 250], number(450))
        self.check("true", [400, 60], number(400))
        self.assertEqual(value_of(run("mul", [20, 20], 20000)[0]), 400)
        self.assertEqual(value_of(run("power", [2, 8], 20000)[0]), 256)

    def test_terms_that_grow_too_large(self):
        self.assertRaises(TooLarge, run, "power", [2, 9], 20000)
        self.assertRaises(TooLarge, run, "mul", [30, 30], 20000)
        self.assertRaises(TooLarge, run, "fix", [2], 20000)
        # The application itself is too large.
        self.assertRaises(TooLarge, run, "add", [400, 400], 0)
        self.assertRaises(TooLarge, run, "true", [400, 400], 5)
        # NoName comes first.
        self.assertRaises(NoName, run, "plus", [400, 400], 0)
        self.assertRaises(NoName, run, "plus", [499], 0)

    def test_no_answer_depends_on_earlier_calls(self):
        self.assertRaises(OutOfSteps, run, "add", [2, 3], 5)
        self.assertEqual(run("add", [2, 3], 6), (number(5), 6))
        self.assertEqual(run("add", [2, 3], 6), (number(5), 6))


if __name__ == "__main__":
    unittest.main()
