import random
import unittest

from lydite.errors import LyditeError, NoRedex, OutOfSteps, TooLarge
from lydite.notation import parse
from lydite.order import MOST_ROAD, first_steps, is_standard, normal, residuals, standard
from lydite.places import places
from lydite.roads import follow, passed, redexes, step
from lydite.terms import is_term
from tests import helper

SMALL = helper.trees_up_to(7, (0,))
LARGER = helper.random_trees(51, 150, 50)
OMEGA = ("app", "lam", "app", 0, 0, "lam", "app", 0, 0)
# It grows by 7 nodes with each step: \a. a a a applied to itself.
GROWING = ("app",) + ("lam", "app", "app", 0, 0, 0) * 2


def term_of(text):
    return parse(text, ["x", "y", "z"])


def strict(tree, road):
    """Return True if a road is standard, by the words of point 16."""
    trees = [tree]
    for place in road:
        trees.append(helper.stepped(trees[-1], place))
    for at, p in enumerate(road):
        current = helper.marked(trees[at])
        order = helper.redexes_of(current)
        before = [helper.mark_at(current, place) for place in order[:order.index(p)]]
        current = helper.stepped(current, p)
        for q in road[at + 1:]:
            if helper.mark_at(current, q) in before:
                return False
            current = helper.stepped(current, q)
    return True


class TooLong(Exception):
    pass


def plain(tree):
    """Return a marked tree without its marks."""
    if isinstance(tree, int):
        return tree
    word = "lam" if helper.is_lam(tree) else "app"
    return (word,) + tuple(plain(part) for part in tree[1:])


def standardized(tree, road, most=80):
    """Return the standard road, by the words of point 17."""
    if not road:
        return []
    if len(road) > most:
        raise TooLong
    start = helper.marked(tree)
    terms = [start]
    for place in road:
        terms.append(helper.stepped(terms[-1], place))
    marks = [helper.mark_at(term, place) for term, place in zip(terms, road)]
    p = next(place for place in helper.redexes_of(start) if helper.mark_at(start, place) in marks)
    number = marks.index(helper.mark_at(start, p))
    without = []
    for term, r in zip(terms[:number], road):
        become, = helper.with_mark(term, helper.mark_at(start, p))
        fresh = helper.marked(plain(term))
        mark = helper.mark_at(fresh, r)
        without.extend(reversed(helper.with_mark(helper.stepped(fresh, become), mark)))
    without.extend(road[number + 1:])
    return [p] + standardized(helper.stepped(tree, p), without, most)


def roads_of(tree, most):
    """Yield all roads of at most so many places from a tree."""
    yield []
    if most > 0:
        for place in helper.redexes_of(tree):
            for rest in roads_of(helper.stepped(tree, place), most - 1):
                yield [place] + rest


class Residuals(unittest.TestCase):
    def test_examples(self):
        for text, place, other, wanted in (
            # beside
            ("x ((\\a. a) y) ((\\a. a) z)", "fa", "a", ["a"]), ("x ((\\a. a) y) ((\\a. a) z)", "a", "fa", ["fa"]),
            # inside the argument: copied, once there, gone
            ("(\\a. a a) ((\\b. b) x)", "", "a", ["f", "a"]), ("(\\a. a) ((\\b. b) x)", "", "a", [""]),
            ("(\\a. y) ((\\b. b) x)", "", "a", []), ("(\\a. a a a) ((\\b. b) x)", "", "a", ["ff", "fa", "a"]),
            ("(\\a b. b a) ((\\c. c) x)", "", "a", ["ba"]),
            ("(\\a. a (\\b. b a)) ((\\c. c) x)", "", "a", ["f", "aba"]),
            # inside the body
            ("(\\a. (\\b. b) a) x", "", "fb", [""]), ("(\\a. y ((\\b. b) a)) x", "", "fb" + "a", ["a"]),
            ("(\\a b. (\\c. c) b) x", "", "fbb", ["b"]),
            # around
            ("(\\a. a a) ((\\b. b) x)", "a", "", [""]), ("(\\a. (\\b. b) a) x", "fb", "", [""]),
            ("(\\a. a) ((\\a. a) ((\\a. a) x))", "aa", "", [""]), ("(\\a. a) ((\\a. a) ((\\a. a) x))", "aa", "a", ["a"]),
            ("(\\a. a) ((\\a. a) ((\\a. a) x))", "a", "aa", ["a"]),
            ("(\\a. a) ((\\a. a) ((\\a. a) x))", "", "aa", ["a"]),
            # deeper inside what is copied
            ("(\\a. a a) (x ((\\b. b) y))", "", "aa", ["fa", "aa"]),
            ("(\\a. a a) (\\c. (\\b. b) c)", "", "ab", ["fb", "ab"]),
        ):
            with self.subTest(text=text, place=place, other=other):
                self.assertEqual(residuals(term_of(text), place, other), wanted)

    def test_a_new_redex_is_no_residual(self):
        # The step makes a redex at the place "", but it has another mark.
        term = term_of("(\\a. a x) (\\b. (\\c. c) b)")
        self.assertEqual(redexes(step(term, "")), ["", "fb"])
        self.assertEqual(residuals(term, "", "ab"), ["fb"])
        term = term_of("(\\a. a) (\\b. b) ((\\c. c) x)")
        self.assertEqual(redexes(step(term, "f")), ["", "a"])
        self.assertEqual(residuals(term, "f", "a"), ["a"])

    def test_all_pairs_of_redexes_by_marks(self):
        for tree in SMALL + LARGER:
            current = helper.marked(tree)
            found = helper.redexes_of(tree)
            for p in found:
                for r in found:
                    if p != r:
                        after = helper.stepped(current, p)
                        wanted = helper.with_mark(after, helper.mark_at(current, r))
                        self.assertEqual(residuals(helper.flat(tree), p, r), wanted)

    def test_residuals_are_redexes_in_order(self):
        text = "(\\a. " + "a " * 50 + ") (y ((\\b. b) x))"
        term = term_of(text)
        found = residuals(term, "", "aa")
        self.assertEqual(len(found), 50)
        self.assertEqual(found, redexes(step(term, "")))

    def test_no_redex(self):
        term = term_of("(\\a. a a) ((\\b. b) x)")
        for place, other in (
            ("f", "a"), ("a", "f"), ("fb", "a"), ("", "fb"), ("", "aa"), ("", "b"), ("b", ""), ("x", "a"), ("", "x"),
            ("", ""), ("a", "a"), ("f", "f"), ("x", "x"), ("", "af"), ("ab", "a"), ("", "a "), ("bb", "aaa"),
        ):
            with self.subTest(place=place, other=other):
                self.assertRaises(NoRedex, residuals, term, place, other)
        for tree in LARGER[:20]:
            known = helper.redexes_of(tree)
            for place in places(helper.flat(tree)):
                if place not in known:
                    for redex in known:
                        self.assertRaises(NoRedex, residuals, helper.flat(tree), place, redex)
                        self.assertRaises(NoRedex, residuals, helper.flat(tree), redex, place)

    def test_too_large(self):
        # The step at "f" is too large, that at "a" is not.
        term = ("app", "app", "lam", "app", 0, 0) + helper.lam_chain(500) + ("app", "lam", 0, 7)
        self.assertRaises(TooLarge, residuals, term, "f", "a")
        self.assertEqual(residuals(term, "a", "f"), ["f"])
        # NoRedex is checked first.
        self.assertRaises(NoRedex, residuals, term, "f", "f")
        self.assertRaises(NoRedex, residuals, term, "f", "b")

    def test_terms_nested_deep(self):
        term = ("app", "lam", 0) * 333 + (5,)
        self.assertEqual(helper.with_little_stack(residuals, term, "a" * 331, "a" * 332), ["a" * 331])
        self.assertEqual(helper.with_little_stack(residuals, term, "", "a" * 332), ["a" * 331])
        self.assertEqual(helper.with_little_stack(residuals, term, "a" * 332, ""), [""])

    def test_a_changed_result_changes_no_later_one(self):
        term = term_of("(\\a. a a) ((\\b. b) x)")
        residuals(term, "", "a").clear()
        self.assertEqual(residuals(term, "", "a"), ["f", "a"])


class IsStandard(unittest.TestCase):
    def check(self, text, wanted):
        for road, answer in wanted:
            with self.subTest(text=text, road=road):
                self.assertIs(is_standard(term_of(text), road), answer)

    def test_the_limit(self):
        self.assertEqual(MOST_ROAD, 200)

    def test_examples(self):
        self.check("x ((\\a. a) y) ((\\a. a) z)", [
            ([], True), (["fa"], True), (["a"], True), (["fa", "a"], True), (["a", "fa"], False),
        ])
        self.check("(\\a. a a) ((\\b. b) x)", [
            ([""], True), (["a"], True), (["a", ""], False), (["", "f", "a"], True), (["", "a", "f"], False),
            (["", "a"], True),
        ])
        self.check("(\\a. (\\b. b) a) x", [(["", ""], True), (["fb", ""], False), (["fb"], True)])

    def test_steps_at_residuals(self):
        # The residual of the first redex stands elsewhere when it is stepped.
        self.check("(\\a. y a a) ((\\b. b) x)", [
            (["", "fa", "a"], True), (["", "a", "fa"], False), (["", "a"], True),
        ])
        self.check("(\\a. a) ((\\a. a) ((\\a. a) x))", [
            (["", "", ""], True), (["", "a", ""], False), (["a", "a", ""], False), (["a", "", ""], False),
            (["aa", ""], False), (["a", "a"], True), (["aa", "a"], False), (["", "a"], True),
        ])
        # Two steps later, in a copy.
        self.check("(\\a. (\\b. b b) (a x)) (\\c. c)", [
            (["fb", ""], False), (["", "", "f", "a"], True), (["", "", "a", "f"], False), (["", "a", ""], False),
        ])

    def test_new_redexes_are_no_residuals(self):
        # The redex that a step makes in front of the stepped one may be stepped.
        self.check("(\\a. a) (\\b. b) ((\\c. c) x)", [
            (["f", "", ""], True), (["f", "a", ""], False), (["a", "f", ""], False), (["f", "a"], True),
            (["a", "f"], False),
        ])
        self.check("x ((\\a. a y) (\\b. b))", [(["a", "a"], True)])
        # "" is new, although in front of "f" when that one is stepped.
        self.check("(\\a. a) (\\b. b) x", [(["f", ""], True)])

    def test_all_roads_of_small_terms(self):
        for tree in helper.trees(8, (0,)):
            for road in roads_of(tree, 3):
                self.assertIs(is_standard(helper.flat(tree), road), strict(tree, road))

    def test_roads_of_larger_terms(self):
        source = random.Random(3)
        answers = []
        for tree in LARGER:
            road, _ = helper.random_road(source, tree, 4)
            answers.append(strict(tree, road))
            self.assertIs(is_standard(helper.flat(tree), road), answers[-1])
        self.assertGreater(answers.count(True), 20)
        self.assertGreater(answers.count(False), 20)

    def test_roads_with_errors(self):
        term = term_of("x ((\\a. a) y) ((\\a. a) z)")
        for road in (["f"], ["fa", "fa"], ["fa", "a", "a"], ["a", "fa", "x"], ["a", "fa", "a"], ["b", "fa"]):
            self.assertRaises(NoRedex, is_standard, term, road)
        grown = ("app", "app", "lam", "app", 0, 0) + helper.lam_chain(500) + ("app", "lam", 0, 7)
        self.assertRaises(TooLarge, is_standard, grown, ["f"])
        self.assertRaises(TooLarge, is_standard, grown, ["a", "f"])
        self.assertRaises(TooLarge, is_standard, grown, ["f", "x"])
        self.assertRaises(NoRedex, is_standard, grown, ["a", "a", "f"])
        # An error behind the step that is not standard.
        term = ("app", "app", 7, "app", "lam", 0, 7) + grown
        self.assertEqual(redexes(term), ["fa", "af", "aa"])
        self.assertRaises(TooLarge, is_standard, term, ["aa", "fa", "af"])
        self.assertRaises(NoRedex, is_standard, term, ["aa", "fa", "fa"])

    def test_roads_of_200_places(self):
        self.assertIs(is_standard(OMEGA, [""] * 200), True)
        pair = ("app",) + OMEGA + OMEGA
        self.assertIs(is_standard(pair, ["f"] * 100 + ["a"] * 100), True)
        self.assertIs(is_standard(pair, ["a"] * 199), True)
        # The redex at "f" comes before "a" and is its own residual.
        self.assertIs(is_standard(pair, ["a"] * 199 + ["f"]), False)
        self.assertIs(is_standard(pair, ["f"] * 198 + ["a", "f"]), False)

    def test_roads_stay_as_they_are(self):
        road = ["", "a", "f"]
        is_standard(term_of("(\\a. a a) ((\\b. b) x)"), road)
        self.assertEqual(road, ["", "a", "f"])


class Standard(unittest.TestCase):
    def check(self, term, road):
        """Check the standard road of a road, and return it."""
        before = list(road)
        found = helper.with_little_stack(standard, term, road)
        self.assertEqual(road, before)
        self.assertEqual(follow(term, found), follow(term, road))
        self.assertIs(is_standard(term, found), True)
        if len(found) <= 30:
            self.assertEqual(standard(term, found), found)
        if is_standard(term, road):
            self.assertEqual(found, road)
        if redexes(follow(term, road)) == []:
            self.assertEqual(found, first_steps(term, MOST_ROAD))
        return found

    def test_examples(self):
        for text, road, wanted in (
            ("x", [], []), ("(\\a. a) x", [""], [""]), ("(\\a. a) x", [], []),
            ("x ((\\a. a) y) ((\\a. a) z)", ["a", "fa"], ["fa", "a"]),
            ("x ((\\a. a) y) ((\\a. a) z)", ["fa", "a"], ["fa", "a"]),
            ("(\\a. a a) ((\\b. b) x)", ["a", ""], ["", "f", "a"]),
            ("(\\a. a a) ((\\b. b) x)", ["", "a", "f"], ["", "f", "a"]),
            ("(\\a. a a) ((\\b. b) x)", ["a"], ["a"]), ("(\\a. y) ((\\b. b) x)", ["a", ""], [""]),
            ("(\\a. y) ((\\b. b) ((\\b. b) x))", ["a", "a", ""], [""]),
            ("(\\a. (\\b. b) a) x", ["fb", ""], ["", ""]), ("(\\a. (\\b. y) a) x", ["fb", ""], ["", ""]),
            ("(\\a. a) (\\b. b) ((\\c. c) x)", ["a", "f", ""], ["f", "", ""]),
            ("(\\a. a x) (\\b. (\\c. c) b)", ["ab", "", ""], ["", "", ""]),
            ("(\\a. a x) (\\b. (\\c. c) b)", ["ab", ""], ["", "fb"]),
            ("(\\a. a a) ((\\b. b b) ((\\c. c) x))", ["aa", "a", ""], ["", "f", "ff", "fa", "a", "af", "aa"]),
        ):
            with self.subTest(text=text, road=road):
                self.assertEqual(self.check(term_of(text), road), wanted)

    def test_all_roads_of_small_terms(self):
        for tree in helper.trees(8, (0,)):
            for road in roads_of(tree, 3):
                self.assertEqual(self.check(helper.flat(tree), road), standardized(tree, road))

    def test_roads_of_larger_terms(self):
        source = random.Random(13)
        longer = 0
        for tree in LARGER + helper.random_trees(52, 100, 30):
            road, _ = helper.random_road(source, tree, source.randint(1, 12))
            try:
                wanted = standardized(tree, road)
            except TooLong:
                continue
            self.assertEqual(self.check(helper.flat(tree), road), wanted)
            longer += len(wanted) > len(road)
        self.assertGreater(longer, 10)

    def test_roads_that_grow(self):
        source = random.Random(14)
        for text in (
            "(\\a. a a a) ((\\b. b b) ((\\c. c) x))", "(\\a b. a (a b)) (\\a b. a (a b)) (\\c. c) x",
            "(\\a. a (a y)) (\\b. (\\c. c b) ((\\d. d) z))", "(\\a. a a) (\\a. a a) ((\\b. b) x)",
            "(\\a b c. a c (b c)) (\\a b. a) (\\a. a a) ((\\a. a) (\\b. b b) x)",
        ):
            tree = helper.tree_of(term_of(text))
            for _ in range(60):
                road, _ = helper.random_road(source, tree, source.randint(1, 8))
                try:
                    wanted = standardized(tree, road)
                except TooLong:
                    continue
                self.assertEqual(self.check(helper.flat(tree), road), wanted)

    def copied(self, copies, steps, inner="x"):
        """Return a term and a road: steps in an argument, which is then copied."""
        text = "(\\a. " + "a " * copies + ") (" + "(\\b. b) (" * steps + inner + ")" * steps + ")"
        return term_of(text), ["a" * n for n in range(steps, 0, -1)] + [""]

    def test_up_to_200_places_and_more(self):
        for copies, steps in ((3, 4), (18, 11), (33, 6), (40, 4), (66, 3), (100, 1)):
            term, road = self.copied(copies, steps)
            self.assertEqual(len(self.check(term, road)), 1 + copies * steps)
        # The road without the first redex has 200 places, the standard road 201.
        for copies, steps in ((20, 10), (25, 8), (40, 5), (19, 11), (67, 3), (41, 5)):
            term, road = self.copied(copies, steps)
            self.assertLessEqual(max(map(len, passed(term, road))), 1000)
            self.assertRaises(TooLarge, standard, term, road)
        # 198 copies, their copier, and one or two steps in front of them.
        term, road = self.copied(18, 11)
        front = ("app", "lam", 0, 0)
        for many in (0, 1, 2):
            longer = ("app", "app", 2) + front + term if many == 1 else term
            if many == 2:
                longer = ("app", "app", "app", 2) + front + front + term
            places_in_front = [[], ["fa"], ["fa", "ffa"]][many]
            road_there = ["a" * (many > 0) + place for place in road] + places_in_front
            if many < 2:
                self.assertEqual(len(self.check(longer, road_there)), 199 + many)
            else:
                self.assertRaises(TooLarge, standard, longer, road_there)

    def test_long_roads_on_the_way_to_a_short_one(self):
        # The copies of the argument go away in the end.
        for copies, steps, behind, fits in (
            (18, 11, 0, True), (18, 11, 1, False), (19, 11, 0, False), (33, 6, 0, True), (33, 6, 1, False),
        ):
            inner = "(\\b. b) (" * steps + "x" + ")" * steps
            term = term_of(
                "z (((\\a k. k (" + "a " * copies + ")) (" + inner + ")) (\\c. y)) ((\\b. b) x)")
            road = ["fafa" + "a" * n for n in reversed(range(steps))] + ["faf", "fa", "fa"] + ["a"] * behind
            if fits:
                self.assertEqual(self.check(term, road), ["faf", "fa", "fa"] + ["a"] * behind)
            else:
                self.assertRaises(TooLarge, standard, term, road)

    def test_copies_of_copies(self):
        # (\a. a a) of (\a. a a) of ... : 2 ** (n + 1) - 1 first steps.
        for many in range(1, 8):
            term = term_of("(\\a. a a) (" * many + "(\\a. a) x" + ")" * many)
            road = ["a" * n for n in range(many, -1, -1)]
            if 2 ** (many + 1) - 1 <= 200:
                self.assertEqual(len(self.check(term, road)), 2 ** (many + 1) - 1)
            else:
                self.assertRaises(TooLarge, standard, term, road)

    def test_terms_that_are_too_large_on_the_way(self):
        # The road leads through small terms, but its standard road does not.
        inner = "(\\b. y) (" + "x " * 25 + ")"
        term = term_of("(\\a. " + "a " * 20 + ") (" + inner + ")")
        self.assertLess(max(map(len, passed(term, ["a", ""]))), 200)
        self.assertRaises(TooLarge, step, term, "")
        self.assertRaises(TooLarge, standard, term, ["a", ""])
        self.assertEqual(standard(term, ["a"]), ["a"])
        term = term_of("(\\a. " + "a " * 15 + ") (" + inner + ")")
        self.assertEqual(len(self.check(term, ["a", ""])), 16)

    def test_errors_of_the_road(self):
        term = term_of("(\\a. a a) ((\\b. b) x)")
        for road in (["f"], ["a", "a"], ["", "a", "a"], ["", "f", "f"], ["x"], ["a", "", ""]):
            self.assertRaises(NoRedex, standard, term, road)
        grown = ("app", "app", "lam", "app", 0, 0) + helper.lam_chain(500) + ("app", "lam", 0, 7)
        for road, error in (
            (["f"], TooLarge), (["a", "f"], TooLarge), (["f", "x"], TooLarge), (["x", "f"], NoRedex),
            (["a", "a", "f"], NoRedex),
        ):
            with self.assertRaises(LyditeError) as caught:
                standard(grown, road)
            self.assertIs(caught.exception.__class__, error)

    def test_longer_roads_than_12_places(self):
        pair = ("app",) + OMEGA + OMEGA
        self.assertEqual(self.check(pair, ["a"] * 8 + ["f"] * 8), ["f"] * 8 + ["a"] * 8)
        self.assertEqual(standard(OMEGA, [""] * 13), [""] * 13)
        # A road of more than 200 places: an error of a step comes first.
        self.assertEqual(standard(OMEGA, [""] * 200), [""] * 200)
        self.assertRaises(TooLarge, standard, OMEGA, [""] * 201)
        self.assertRaises(NoRedex, standard, OMEGA, [""] * 201 + ["b"])

    def test_terms_nested_deep(self):
        term = ("app", "lam", 0) * 333 + (5,)
        road = ["a" * n for n in range(332, 320, -1)]
        self.assertEqual(self.check(term, road), ["a" * 321] * 12)

    def test_a_changed_result_changes_no_later_one(self):
        term = term_of("(\\a. a a) ((\\b. b) x)")
        road = ["a", ""]
        standard(term, road).clear()
        self.assertEqual(standard(term, road), ["", "f", "a"])
        already = ["", "f", "a"]
        self.assertIsNot(standard(term, already), already)
        empty = []
        self.assertIsNot(standard(term, empty), empty)


class Normal(unittest.TestCase):
    def test_terms_that_are_normal_already(self):
        for term in [(0,), ("lam", 0), ("app", 0, "lam", 0)] + helper.long_terms(1000):
            for steps in (0, 1, 20000):
                self.assertEqual(helper.with_little_stack(normal, term, steps), (term, 0))

    def test_exactly_as_many_steps_as_needed(self):
        for text, wanted, steps in (
            ("(\\a. a) x", "x", 1), ("(\\a. a a) ((\\b. b) x)", "x x", 3), ("(\\a. y) ((\\b. b) x)", "y", 1),
            ("\\a. (\\b. b) ((\\c. c) a)", "\\a. a", 2), ("(\\a b. a (a b)) (\\a b. a (a b))", "\\a b. a (a (a (a b)))", 6),
            ("(\\a b. a) x ((\\a. a a) (\\a. a a))", "x", 2), ("x ((\\a. a) y) ((\\a. a) z)", "x y z", 2),
        ):
            with self.subTest(text=text):
                for given in (steps, steps + 1, 20000):
                    self.assertEqual(normal(term_of(text), given), (term_of(wanted), steps))
                for given in range(steps):
                    self.assertRaises(OutOfSteps, normal, term_of(text), given)

    def test_it_steps_at_the_first_redex(self):
        for tree in LARGER + helper.random_trees(61, 100, 30):
            steps = []
            term = helper.flat(tree)
            while helper.redexes_of(tree) and len(steps) < 25 and len(helper.flat(tree)) <= 500:
                steps.append(helper.redexes_of(tree)[0])
                tree = helper.stepped(tree, steps[-1])
            self.assertEqual(first_steps(term, len(steps)), steps)
            if not helper.redexes_of(tree):
                self.assertEqual(normal(term, len(steps)), (helper.flat(tree), len(steps)))
                self.assertEqual(first_steps(term, 200), steps)
            if steps:
                self.assertRaises(OutOfSteps, normal, term, len(steps) - 1)

    def test_terms_without_a_normal_term(self):
        for steps in (0, 1, 100, 20000):
            self.assertRaises(OutOfSteps, normal, OMEGA, steps)
        self.assertRaises(OutOfSteps, normal, ("lam",) * 991 + OMEGA, 500)
        self.assertRaises(OutOfSteps, normal, ("app", 0) + OMEGA, 500)

    def test_terms_that_grow_too_large(self):
        # 13 nodes and 7 more with each step: 1000 after 141 steps.
        self.assertEqual(len(follow(GROWING, first_steps(GROWING, 141))), 1000)
        self.assertRaises(OutOfSteps, normal, GROWING, 141)
        self.assertRaises(TooLarge, normal, GROWING, 142)
        self.assertRaises(TooLarge, normal, GROWING, 20000)
        self.assertRaises(TooLarge, normal, ("app", "lam", "lam", 1, 1000000), 1)

    def test_a_step_beyond_the_number_is_not_tried(self):
        grown = ("app", "lam", "app", 0, 0) + helper.lam_chain(500)
        self.assertRaises(OutOfSteps, normal, grown, 0)
        self.assertRaises(TooLarge, normal, grown, 1)
        term = ("app", "app", 7, "app", "lam", 0, 7) + grown
        self.assertRaises(OutOfSteps, normal, term, 0)
        self.assertRaises(OutOfSteps, normal, term, 1)
        self.assertRaises(TooLarge, normal, term, 2)

    def test_results_of_1000_nodes(self):
        argument = helper.argument_chain(499, 3)
        term = ("lam", "app", "lam", "app", 0, 0) + argument
        result, steps = normal(term, 1)
        self.assertEqual((len(result), is_term(result), steps), (1000, True, 1))
        self.assertRaises(TooLarge, normal, ("lam",) + term, 1)

    def test_many_steps(self):
        # Numbers: 2 applied to 2 applied to 2 ....
        two = "(\\a b. a (a b))"
        term = term_of(f"{two} {two} {two} (\\a. a) x")
        result, steps = normal(term, 20000)
        self.assertEqual(result, (0,))
        self.assertEqual(len(first_steps(term, 200)), min(steps, 200))
        self.assertRaises(OutOfSteps, normal, term, steps - 1)
        term = ("app", "lam", 0) * 333 + (5,)
        self.assertEqual(helper.with_little_stack(normal, term, 333), ((5,), 333))
        self.assertRaises(OutOfSteps, normal, term, 332)

    def test_terms_somewhat_beyond_the_limits(self):
        self.assertRaises(TooLarge, normal, helper.lam_chain(1001), 0)
        self.assertRaises(TooLarge, normal, (1000001,), 5)
        self.assertEqual(normal(("app", "lam", 1) + helper.lam_chain(999), 1), ((0,), 1))
        self.assertEqual(first_steps(helper.lam_chain(1001), 5), [])

    def test_no_answer_depends_on_earlier_calls(self):
        term = term_of("(\\a. a a) ((\\b. b) x)")
        self.assertRaises(OutOfSteps, normal, term, 2)
        self.assertEqual(normal(term, 3), (("app", 0, 0), 3))
        self.assertRaises(OutOfSteps, normal, term, 2)


class FirstSteps(unittest.TestCase):
    def test_examples(self):
        term = term_of("(\\a. a a) ((\\b. b) x)")
        for count, wanted in ((0, []), (1, [""]), (2, ["", "f"]), (3, ["", "f", "a"]), (4, ["", "f", "a"]), (200, ["", "f", "a"])):
            self.assertEqual(first_steps(term, count), wanted)
        self.assertEqual(first_steps(OMEGA, 200), [""] * 200)
        self.assertEqual(first_steps(GROWING, 4), ["", "f", "ff", "fff"])

    def test_normal_terms(self):
        for term in helper.long_terms(1000) + [(0,)]:
            for count in (0, 1, 200):
                self.assertEqual(helper.with_little_stack(first_steps, term, count), [])

    def test_all_steps_are_performed(self):
        grown = ("app", "lam", "app", 0, 0) + helper.lam_chain(500)
        self.assertEqual(first_steps(grown, 0), [])
        self.assertRaises(TooLarge, first_steps, grown, 1)
        term = ("app", "app", 7, "app", "lam", 0, 7) + grown
        self.assertEqual(first_steps(term, 1), ["fa"])
        self.assertRaises(TooLarge, first_steps, term, 2)
        self.assertEqual(len(first_steps(GROWING, 141)), 141)
        self.assertRaises(TooLarge, first_steps, GROWING, 142)
        self.assertRaises(TooLarge, first_steps, GROWING, 200)

    def test_the_steps_are_a_standard_road(self):
        for tree in LARGER:
            term = helper.flat(tree)
            try:
                road = first_steps(term, 30)
            except TooLarge:
                continue
            for at, before in enumerate(passed(term, road)[:-1]):
                self.assertEqual(road[at], redexes(before)[0])
            self.assertIs(is_standard(term, road), True)

    def test_terms_nested_deep(self):
        term = ("lam",) * 991 + OMEGA
        self.assertEqual(helper.with_little_stack(first_steps, term, 20), ["b" * 991] * 20)

    def test_a_changed_result_changes_no_later_one(self):
        found = first_steps(OMEGA, 3)
        found.append("x")
        self.assertEqual(first_steps(OMEGA, 3), ["", "", ""])


if __name__ == "__main__":
    unittest.main()
