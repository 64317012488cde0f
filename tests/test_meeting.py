import random
import unittest

from lydite.errors import LyditeError, NoRedex, TooLarge
from lydite.meeting import MOST_SHORT, develop, meet, way
from lydite.notation import parse
from lydite.order import normal
from lydite.roads import follow, passed, redexes, step
from lydite.terms import free, is_term
from tests import helper

SMALL = helper.trees_up_to(6, (0, 1))
LARGER = helper.random_trees(21, 200, 60)
OMEGA = ("app", "lam", "app", 0, 0, "lam", "app", 0, 0)
# It grows by each step: \a. a a a applied to itself.
GROWING = ("app",) + ("lam", "app", "app", 0, 0, 0) * 2


def term_of(text):
    return parse(text, ["x", "y", "z"])


def development(tree):
    """Return the development of a tree, by the words of point 11."""
    if isinstance(tree, int):
        return tree
    if tree[0] == "lam":
        return ("lam", development(tree[1]))
    if helper.is_lam(tree[1]):
        return helper.value_put(development(tree[1][1]), development(tree[2]))
    return ("app", development(tree[1]), development(tree[2]))


class Develop(unittest.TestCase):
    def test_the_limit(self):
        self.assertEqual(MOST_SHORT, 12)

    def test_examples(self):
        for text, *wanted in (
            ("x", "x"), ("\\a. a", "\\a. a"), ("(\\a. a) x", "x"), ("x ((\\a. a) y)", "x y"),
            ("(\\a. a a) ((\\b. b) x)", "x x"), ("(\\a. (\\b. b) a) x", "x"),
            ("(\\a. a x) (\\b. b)", "(\\b. b) x", "x"), ("(\\a b. a) x y", "(\\b. x) y", "x"),
            ("(\\a. a) (\\a. a) x", "(\\a. a) x", "x", "x"), ("\\a. (\\b c. b) a", "\\a c. a"),
            ("(\\a b c. a c (b c)) (\\a b. a) (\\a b. a) x", "(\\b c. (\\a b. a) c (b c)) (\\a b. a) x",
             "(\\c. (\\b. c) ((\\a b. a) c)) x", "x"),
        ):
            term = term_of(text)
            self.assertEqual(develop(term, 0), term)
            for times, text_then in enumerate(wanted):
                with self.subTest(text=text, times=times + 1):
                    self.assertEqual(develop(term, times + 1), term_of(text_then))

    def test_small_and_larger_terms(self):
        for tree in SMALL + LARGER:
            self.assertEqual(develop(helper.flat(tree), 1), helper.flat(development(tree)))

    def test_0_to_12_times(self):
        for tree in LARGER[:60]:
            term = helper.flat(tree)
            for times in range(13):
                self.assertEqual(develop(term, times), helper.flat(tree))
                tree = development(tree)
                if len(helper.flat(tree)) > 500:
                    break

    def test_terms_without_an_end(self):
        self.assertEqual(develop(OMEGA, 12), OMEGA)
        sizes = [len(develop(GROWING, times)) for times in range(13)]
        self.assertEqual(sizes, [13 + 7 * times for times in range(13)])

    def test_terms_nested_deep(self):
        for term in helper.long_terms(1000):
            self.assertEqual(helper.with_little_stack(develop, term, 12), term)
        for term, wanted in (
            (("app", "lam", 0) * 333 + (5,), (5,)), (("app", "lam") * 333 + (0,) * 334, (0,)),
            (("lam",) * 991 + OMEGA, ("lam",) * 991 + OMEGA),
        ):
            self.assertEqual(helper.with_little_stack(develop, term, 1), wanted)
        term = ("app",) * 332 + ("lam", 0) * 333
        self.assertEqual(
            helper.with_little_stack(develop, term, 12), ("app",) * 320 + ("lam", 0) * 321)

    def test_results_of_1000_and_1001_nodes(self):
        for front, size in ((1, 499), (3, 498), (201, 399)):
            term = ("lam",) * front + ("app", "lam", "app", 0, 0) + helper.lam_chain(size)
            self.assertEqual(len(develop(term, 1)), 1000)
            self.assertRaises(TooLarge, develop, ("lam",) + term, 1)
        # Too large only after several times.
        self.assertEqual(develop(helper.lam_chain(1000), 0), helper.lam_chain(1000))
        growing = ("lam",) * 950 + GROWING
        self.assertEqual(len(develop(growing, 5)), 998)
        self.assertRaises(TooLarge, develop, growing, 6)
        self.assertRaises(TooLarge, develop, growing, 12)

    def test_too_large_only_in_a_part(self):
        # The argument of (\a. x) goes away, but it is a part of the term.
        grown = ("app", "lam", "app", 0, 0)
        for size, fits in ((499, True), (500, False)):
            lost = grown + helper.lam_chain(size)
            for term in (
                ("app", "lam", 7) + lost, ("app", "lam", "app", "lam", 2, 0) + lost,
                ("app", "lam", "app", "lam", 7) + lost + (0,),
            ):
                if fits:
                    self.assertEqual(len(develop(term, 1)), 1)
                else:
                    self.assertRaises(TooLarge, develop, term, 1)
        # Too large only in the second development.
        late = ("app", "lam", "app", 0) + helper.lam_chain(500) + ("lam", "app", 0, 0)
        self.assertEqual(len(develop(late, 1)), 505)
        self.assertRaises(TooLarge, develop, late, 2)
        term = ("app", "app", "lam", "lam", 1, 7) + late
        self.assertEqual(develop(term, 1), ("app", "lam", 8) + develop(late, 1))
        self.assertRaises(TooLarge, develop, term, 2)

    def test_terms_somewhat_beyond_the_limits(self):
        self.assertRaises(TooLarge, develop, helper.lam_chain(1001), 0)
        self.assertRaises(TooLarge, develop, helper.lam_chain(1001), 1)
        self.assertRaises(TooLarge, develop, (1000001,), 0)
        self.assertRaises(TooLarge, develop, ("app", "lam", 5, 1000001), 1)
        self.assertEqual(develop(("app", "lam", 1) + helper.lam_chain(999), 1), (0,))

    def test_the_abstraction_of_a_redex_that_goes_away(self):
        # What the body becomes has 1000 nodes, with its abstraction 1001.
        body = ("app", "lam", "app", "app", 0, 0, 1) + helper.lam_chain(498)
        self.assertEqual(len(develop(body, 1)), 1 + 1 + 498 * 2 + 1)
        body = ("lam",) + body
        self.assertEqual(len(develop(body, 1)), 1000)
        self.assertEqual(len(develop(("app", "lam") + body + (3,), 1)), 1000)
        self.assertRaises(TooLarge, develop, ("lam",) + body, 1)
        self.assertRaises(TooLarge, develop, ("app", 3, "lam") + body, 1)
        # The body itself counts.
        self.assertRaises(TooLarge, develop, ("app", "lam", "lam") + body + (3,), 1)
        # The argument, which is an abstraction, counts.
        self.assertRaises(TooLarge, develop, ("app", "lam", 3, "lam") + body, 1)

    def test_greatest_variable(self):
        self.assertEqual(develop(("app", "lam", "lam", 1, 999999), 1), ("lam", 1000000))
        self.assertRaises(TooLarge, develop, ("app", "lam", "lam", 1, 1000000), 1)
        # A part that goes away counts.
        lost = ("app", "lam", "lam", 1, 1000000)
        self.assertRaises(TooLarge, develop, ("app", "lam", 0) + lost, 1)
        self.assertRaises(TooLarge, develop, ("app", "lam", 5) + lost, 1)
        self.assertEqual(develop(("app", "lam", 0, 1000000), 1), (1000000,))


class Way(unittest.TestCase):
    def check(self, term):
        """Check the way, and return it."""
        road = helper.with_little_stack(way, term)
        wanted = develop(term, 1)
        terms = passed(term, road)
        self.assertEqual(terms[-1], wanted)
        self.assertLessEqual(len(road), len(redexes(term)))
        return road

    def test_examples(self):
        for text in (
            "x", "(\\a. a) x", "(\\a. x) ((\\b. b) y)", "(\\a. a a) ((\\b. b) y)", "\\a. (\\b. b) a",
            "(\\a. (\\b. b a) a) ((\\c. c c) z)", "(\\a. (\\b. x) a) ((\\c. c c) z)",
            "(\\a. a) (\\b. b) (\\c. c) x",
        ):
            self.check(term_of(text))
        self.assertEqual(way(term_of("x y")), [])
        self.assertEqual(way(OMEGA), [""])

    def test_small_and_larger_terms(self):
        for tree in SMALL + LARGER:
            self.check(helper.flat(tree))

    def test_terms_nested_deep(self):
        self.check(("app", "lam", 0) * 333 + (5,))
        self.check(("app", "lam") * 333 + (0,) * 334)
        self.check(("app", "lam", 7) * 333 + (5,))
        for term in helper.long_terms(1000):
            self.assertEqual(helper.with_little_stack(way, term), [])

    def test_terms_that_grow(self):
        for size in (10, 400, 499):
            self.check(("app", "lam", "app", 0, 0) + helper.lam_chain(size))
        nested = term_of("(\\a. a a) ((\\a. a a) ((\\a. a a) ((\\a. a a) ((\\a. a a) x))))")
        self.assertEqual(len(develop(nested, 1)), 63)
        self.check(nested)

    def test_arguments_that_are_not_used(self):
        # Developed, the argument would be larger than any term may be here.
        lost = ("app", "lam", "app", 0, 0) + helper.lam_chain(400)
        for body in ((3,), ("app", "lam", 3, 0), ("app", "lam", "app", "lam", 3, 0, 0)):
            term = ("lam",) * 190 + ("app", "lam") + body + lost
            self.assertEqual(len(develop(term, 1)), 191)
            self.check(term)
        # Both together have at most 1000 nodes, and the argument would have 801.
        for size in (300, 397):
            term = ("app", "app", "lam", "lam", "app", 0, 1, 0, "app", "lam", 3) + lost
            term = ("app",) + term + helper.lam_chain(size - 200)
            self.assertLessEqual(len(term) + len(develop(term, 1)), 1000)
            self.check(term)

    def test_both_together_have_1000_nodes(self):
        # Whatever is copied or goes away, no term on the way is larger.
        source = random.Random(3)
        checked = 0
        while checked < 60:
            tree = helper.random_tree(source, source.randint(150, 480), 2)
            term = helper.flat(tree)
            try:
                wanted = develop(term, 1)
            except TooLarge:
                self.assertRaises(TooLarge, way, term)
                continue
            if len(term) + len(wanted) <= 1000:
                road = self.check(term)
                largest = max(len(term) for term in passed(term, road))
                self.assertLessEqual(largest, len(term) + len(wanted))
                checked += 1

    def test_duplicates_of_large_developments(self):
        # b copies its argument, which itself grows.
        for size, many in ((30, 5), (40, 4), (60, 3), (100, 2)):
            copied = ("app",) * (many - 1) + (0,) * many
            inner = ("app", "lam", "app", 0, 0) + helper.lam_chain(size)
            term = ("app", "lam") + copied + inner
            self.assertEqual(len(develop(term, 1)), many - 1 + many * (2 * size + 1))
            self.check(term)

    def test_too_large_as_the_development(self):
        grown = ("app", "lam", "app", 0, 0)
        for term in (
            grown + helper.lam_chain(500), ("app", "lam", 7) + grown + helper.lam_chain(500),
            ("app", "lam", "lam", 1, 1000000), ("app", "lam", 0, "app", "lam", "lam", 1, 1000000),
        ):
            self.assertRaises(TooLarge, way, term)

    def test_no_road_through_terms_that_are_too_large(self):
        # Both parts together are too large after the step at one of them.
        grows = ("app", "lam", "app", 0, 0) + helper.lam_chain(400)
        shrinks = ("app", "lam", 7) + helper.lam_chain(580)
        for term in (("app",) + grows + shrinks, ("app",) + shrinks + grows):
            self.assertLess(len(develop(term, 1)), 1000)
            self.check_or_too_large(term)

    def check_or_too_large(self, term):
        """Check the way, if it is not too large where point 12 allows this."""
        try:
            way(term)
        except TooLarge:
            try:
                self.assertGreater(len(term) + len(develop(term, 1)), 1000)
            except TooLarge:
                pass
        else:
            self.check(term)

    def test_beyond_1000_nodes_together_it_leads_there_or_is_too_large(self):
        source = random.Random(8)
        for _ in range(40):
            self.check_or_too_large(helper.flat(helper.random_tree(source, source.randint(400, 700), 2)))

    def test_large_variables(self):
        # Up to 900,000 the way is found; beyond, it leads there or is too large.
        self.check(("app", "lam", "lam", 1, 900000))
        self.check(("lam",) * 300 + ("app", "lam", "app", "lam", "lam", 1, 0, 900000))
        self.check(("app", "lam", 0, 1000000))
        self.check(("app", "lam", "lam", "lam", "lam", 3, "app", "lam", 0, 900000))

    def test_a_changed_result_changes_no_later_one(self):
        term = term_of("(\\a. a a) ((\\b. b) y)")
        found = way(term)
        wanted = list(found)
        found.append("b")
        self.assertEqual(way(term), wanted)


class Meet(unittest.TestCase):
    def check(self, term, first, second):
        """Check what meet returns, and return it."""
        before = list(first), list(second)
        found = helper.with_little_stack(meet, term, first, second)
        self.assertEqual((first, second), before)
        self.assertIsInstance(found, tuple)
        goal, one, other = found
        self.assertEqual(goal, develop(term, max(len(first), len(second))))
        self.assertEqual(follow(follow(term, first), one), goal)
        self.assertEqual(follow(follow(term, second), other), goal)
        return found

    def test_no_steps(self):
        for term in ((3,), OMEGA, helper.lam_chain(1000), helper.argument_chain(999)):
            self.assertEqual(meet(term, [], []), (term, [], []))

    def test_examples(self):
        term = term_of("(\\a. a a) ((\\b. b) x)")
        for first in ([], [""], ["a"], ["", "f"], ["", "a"], ["", "a", "f"], ["a", ""], ["", "f", "a"]):
            for second in ([], [""], ["a"], ["", "f"], ["a", ""], ["", "a", "f"]):
                self.check(term, first, second)
        self.assertEqual(meet(term, ["a"], [""])[0], term_of("x x"))

    def test_roads_of_different_length(self):
        # The development so many times as the longer road has places.
        term = term_of("(\\a. a) (\\b. b) (\\c. c) (\\d. d) x")
        goals = [develop(term, times) for times in range(5)]
        self.assertEqual(len(set(goals)), 5)
        for long in range(5):
            road = ["f" * (3 - n) for n in range(long)]
            for short in range(long + 1):
                self.assertEqual(self.check(term, road, road[:short])[0], goals[long])
                self.assertEqual(self.check(term, road[:short], road)[0], goals[long])
        self.assertEqual(self.check(term, ["fff", "ff", "f", ""], [])[1], [])

    def test_all_pairs_of_short_roads_of_small_terms(self):
        for tree in helper.trees(7, (0,)) + helper.trees(8, (0,))[::7]:
            term = helper.flat(tree)
            roads = [[]] + [[place] for place in redexes(term)]
            roads += [[p, q] for p in redexes(term) for q in redexes(step(term, p))]
            if len(roads) > 2:
                for first in roads:
                    for second in roads:
                        self.check(term, first, second)

    def test_longer_roads(self):
        source = random.Random(6)
        checked = 0
        for tree in helper.random_trees(31, 300, 30):
            first, one = helper.random_road(source, tree, source.randint(0, 12))
            second, other = helper.random_road(source, tree, source.randint(0, 12))
            if self.is_within(helper.flat(tree), first, second):
                self.check(helper.flat(tree), first, second)
                checked += 1
        self.assertGreater(checked, 280)

    def is_within(self, term, first, second):
        """Return True if point 13 allows no TooLarge for these roads."""
        many = max(len(first), len(second))
        total = 0
        for road in (first, second):
            for at, start in enumerate(passed(term, road)):
                for times in range(many - at + 1):
                    try:
                        size = len(develop(start, times))
                    except TooLarge:
                        return False
                    total += size
                    if size > 250 or total > 4000:
                        return False
        return True

    def check_or_too_large(self, term, first, second):
        """Check the roads, if they are not too large where point 13 allows this."""
        try:
            meet(term, first, second)
        except TooLarge:
            self.assertFalse(self.is_within(term, first, second))
        else:
            self.check(term, first, second)

    def test_terms_that_grow_and_arguments_that_go_away(self):
        source = random.Random(9)
        texts = (
            "(\\a. a a a) ((\\b. b b) ((\\c. c) x))",
            "(\\a b. a (a b)) (\\a b. a (a b)) x y",
            "(\\a. (\\b. y) (a a a a)) ((\\b. b b b) (\\c. c) (\\d. d d))",
            "(\\a b. b) ((\\a. a a a) (\\a. a a a)) ((\\c. c c) (\\d. d) z)",
            "(\\a. a a) (\\a. a a) ((\\b. b) x)",
            "(\\p. p (\\a b. b) p) (\\c. c (\\a. a a) ((\\d. d d) x))",
            "(\\a b c. a c (b c)) (\\a b. a) (\\a. a a) ((\\a. a) (\\b. b b) x)",
        )
        for text in texts:
            term = term_of(text)
            checked = 0
            for _ in range(40):
                first = helper.random_road(source, helper.tree_of(term), source.randint(1, 6))[0]
                second = helper.random_road(source, helper.tree_of(term), source.randint(1, 6))[0]
                if self.is_within(term, first, second):
                    self.check(term, first, second)
                    checked += 1
            self.assertGreater(checked, 0, text)

    def test_steps_at_some_redexes_may_be_larger_than_any_development(self):
        # One step copies a large argument often, into a place that goes away.
        text = "(\\a. (\\b. y) (" + "a " * 12 + ")) ((\\c. c) (" + "x " * 50 + "))"
        term = term_of(text)
        self.assertRaises(TooLarge, step, term, "")
        for first in (["a"], ["a", "fb"], ["fb"], ["fb", ""], ["fb", "a"]):
            for second in ([], ["a"], ["fb"], ["a", "fb", ""]):
                self.assertTrue(self.is_within(term, first, second))
                self.check(term, first, second)
        # The same inside an argument that goes away: the first step makes the
        # redexes that make those of d and a in the development, two times.
        term = term_of(
            "(\\w. (\\e. e) (\\z. w (\\d. y) (w (\\a. (\\e. e) (\\e. e) (\\b. y) ("
            + "a " * 12 + ")) z)) (" + "x " * 50 + ")) (\\e. e)")
        road = ["", "fabf", "fab"]
        twice = develop(term, 2)
        self.assertEqual(redexes(twice), ["", "a", "afb"])
        self.assertRaises(TooLarge, step, twice, "a")
        for second in ([], [""], ["fbf"], ["fbf", ""], ["", "f", ""]):
            self.assertTrue(self.is_within(term, road, second))
            self.check(term, road, second)
            self.check(term, second, road)

    def test_roads_to_normal_terms_lead_to_the_same_one(self):
        source = random.Random(2)
        for tree in helper.random_trees(5, 120, 25):
            first, one = helper.random_road(source, tree, 12)
            second, other = helper.random_road(source, tree, 12)
            if not helper.redexes_of(one) and not helper.redexes_of(other):
                self.assertEqual(one, other)
                goal, more, others = self.check(helper.flat(tree), first, second)
                self.assertEqual((goal, more, others), (helper.flat(one), [], []))

    def test_twelve_steps(self):
        term = term_of("(\\a. a a) (\\a. a a) ((\\b. b) x)")
        self.check(term, ["f"] * 12, ["a"] + ["f"] * 11)
        self.check(term, ["f"] * 12, [])
        self.check(term, [], ["f"] * 12)
        self.check(GROWING, [""] + ["f" * n for n in range(1, 6)], [""])

    def test_large_variables(self):
        term = ("app", "lam", "app", 0, 0, "app", "lam", "lam", 1, 900000)
        for first in ([], [""], ["a"], ["", "a"], ["a", ""]):
            self.check(term, first, ["", "f", "a"])

    def test_large_terms_meet_or_are_too_large(self):
        source = random.Random(12)
        for tree in helper.random_trees(14, 25, 300):
            first = helper.random_road(source, tree, 6)[0]
            second = helper.random_road(source, tree, 6)[0]
            term = helper.flat(tree)
            self.check_or_too_large(term, first, second)

    def test_no_roads_through_terms_that_are_too_large(self):
        grows = ("app", "lam", "app", 0, 0) + helper.lam_chain(390)
        shrinks = ("app", "lam", 7) + helper.lam_chain(580)
        first = ("app", "app", "app", "lam", 0, 7)
        for term in (first + grows + shrinks, first + shrinks + grows):
            self.assertEqual(redexes(term), ["ff", "fa", "a"])
            for one, other in ((["ff"], []), ([], ["ff"]), (["ff"], ["ff"])):
                self.check_or_too_large(term, one, other)

    def test_errors_of_the_roads(self):
        grown = ("app", "lam", "app", 0, 0)
        term = ("app",) + grown + ("lam",) * 498 + ("lam", 0) + ("app", "lam", 0, 7)
        self.assertEqual(redexes(term), ["f", "a"])
        for first, second, error in (
            (["b"], [], NoRedex), ([], ["b"], NoRedex), (["f"], [], TooLarge), ([], ["f"], TooLarge),
            (["b"], ["f"], NoRedex), (["f"], ["b"], TooLarge), (["a", "a"], ["f"], NoRedex),
            (["a", "f"], ["b"], TooLarge), (["a"], ["b", "f"], NoRedex), (["a"], ["f", "b"], TooLarge),
            (["a", "a", "f"], [], NoRedex), (["a", "f", "a"], [], TooLarge), (["a", "x"], [], NoRedex),
        ):
            before = list(first), list(second)
            with self.subTest(first=first, second=second):
                with self.assertRaises(LyditeError) as caught:
                    meet(term, first, second)
                self.assertIs(caught.exception.__class__, error)
                self.assertEqual((first, second), before)

    def test_too_large_as_the_development(self):
        # Each road is fine, but the development is not.
        grown = ("app", "lam", "app", 0, 0)
        term = ("app",) + grown + ("lam",) * 498 + ("lam", 0) + ("app", "lam", 0, 7)
        self.assertRaises(TooLarge, develop, term, 1)
        self.assertRaises(TooLarge, meet, term, ["a"], [])
        self.assertRaises(TooLarge, meet, term, [], ["a"])
        self.assertRaises(TooLarge, meet, term, ["a"], ["a"])
        self.assertEqual(meet(term, [], []), (term, [], []))
        self.assertRaises(NoRedex, meet, term, ["a"], ["x"])
        # The development is too large only the second time.
        late = ("app", "lam", "app", 0) + helper.lam_chain(500) + ("lam", "app", 0, 0)
        late = ("app",) + late + ("app", "lam", 0, "app", "lam", 0, 7)
        self.assertEqual(len(develop(late, 1)), 507)
        self.check(late, ["a"], [])
        self.assertRaises(TooLarge, meet, late, ["a", "a"], ["a"])

    def test_roads_share_nothing(self):
        term = term_of("(\\a. a a) ((\\b. b) x)")
        road = ["a"]
        found = meet(term, road, road)
        self.assertIsNot(found[1], found[2])
        wanted = tuple(map(list, found[1:]))
        found[1].append("x")
        found[2].clear()
        self.assertEqual(meet(term, road, road)[1:], wanted)
        empty = []
        for result in meet(term, empty, empty)[1:]:
            self.assertIsNot(result, empty)


class Cofinality(unittest.TestCase):
    """Point 14."""

    def test_the_development_is_reached_from_the_end_of_each_road(self):
        source = random.Random(17)
        for tree in helper.random_trees(18, 60, 25):
            road, end = helper.random_road(source, tree, 4)
            goal, one, other = meet(helper.flat(tree), road, [])
            self.assertEqual(goal, develop(helper.flat(tree), len(road)))
            self.assertEqual(follow(helper.flat(end), one), goal)
            self.assertEqual(follow(helper.flat(tree), other), goal)

    def test_closed_terms_lead_to_closed_ones(self):
        for tree in helper.random_trees(41, 60, 30, 0):
            term = ("lam",) * 3 + helper.flat(tree)
            if free(term) == []:
                self.assertEqual(free(develop(term, 3)), [])

    def test_normal_terms_are_reached_by_developments(self):
        for tree in helper.random_trees(42, 60, 25):
            term = helper.flat(tree)
            try:
                wanted, steps = normal(term, 12)
            except LyditeError:
                continue
            self.assertEqual(develop(term, steps), wanted)
            self.assertIs(is_term(wanted), True)


if __name__ == "__main__":
    unittest.main()
