import itertools
import random
import unittest

from lydite.errors import LyditeError, NoRedex, TooLarge
from lydite.notation import parse
from lydite.places import places
from lydite.roads import follow, passed, redexes, step
from lydite.terms import free, is_term, put
from tests import helper

SMALL = helper.trees_up_to(6, (0, 1, 2))
LARGER = helper.random_trees(11, 150, 60)
STRINGS = ["".join(row) for n in range(4) for row in itertools.product("bfa", repeat=n)]
NO_PLACES = ["x", " ", "B", "f ", " f", "0", "fx", "xf", "\n", "lam", "app", "bfax", "?"]

OMEGA = ("app", "lam", "app", 0, 0, "lam", "app", 0, 0)
IDENTITY = ("lam", 0)


def term_of(text):
    return parse(text, ["x", "y", "z"])


class Redexes(unittest.TestCase):
    def test_examples(self):
        for text, wanted in (
            ("x", []), ("\\a. a", []), ("x (\\a. a)", []), ("\\a. a a", []),
            ("(\\a. a) x", [""]), ("(\\a. a) (\\a. a)", [""]), ("\\a. (\\b. b) a", ["b"]),
            ("(\\a. a) ((\\a. a) x)", ["", "a"]), ("(\\a. (\\b. b) a) x", ["", "fb"]),
            ("(\\a. a) x y", ["f"]), ("x ((\\a. a) y) ((\\a. a) z)", ["fa", "a"]),
            ("(\\a. (\\b. b) a) ((\\c. c) x) y", ["f", "ffb", "fa"]),
            ("(\\a b. a) x y", ["f"]), ("\\a. a (\\b. b) ((\\c. (\\d. d) c) a)", ["ba", "bafb"]),
        ):
            with self.subTest(text=text):
                self.assertEqual(redexes(term_of(text)), wanted)

    def test_all_small_terms_and_larger_ones_in_order(self):
        for tree in SMALL + LARGER:
            term = helper.flat(tree)
            found = redexes(term)
            self.assertEqual(found, helper.redexes_of(tree))
            self.assertEqual(found, [place for place in places(term) if place in found])

    def test_terms_nested_deep(self):
        chains = (
            (("app", "lam") * 333 + (0,) * 334, ["fb" * n for n in range(333)]),
            (("app", "lam", 0) * 333 + (0,), ["a" * n for n in range(333)]),
            (("app",) * 332 + IDENTITY * 333, ["f" * 331]),
            (("lam",) * 991 + OMEGA, ["b" * 991]),
        )
        for term, wanted in chains:
            self.assertIs(is_term(term), True)
            self.assertEqual(helper.with_little_stack(redexes, term), wanted)
        for term in helper.long_terms(1000):
            self.assertEqual(helper.with_little_stack(redexes, term), [])

    def test_a_changed_result_changes_no_later_one(self):
        found = redexes(OMEGA)
        found.append("b")
        self.assertEqual(redexes(OMEGA), [""])


class Step(unittest.TestCase):
    def test_examples(self):
        for text, place, wanted in (
            ("(\\a. a) x", "", "x"), ("(\\a. y) x", "", "y"), ("(\\a. a a) x", "", "x x"),
            ("(\\a b. a) x", "", "\\b. x"), ("(\\a b. b) x", "", "\\b. b"),
            ("\\a. (\\b. b b) a", "b", "\\a. a a"), ("(\\a. a) x y", "f", "x y"),
            ("(\\a. a a) ((\\b. b) x)", "", "(\\b. b) x ((\\b. b) x)"),
            ("(\\a. a a) ((\\b. b) x)", "a", "(\\a. a a) x"),
            ("(\\a. (\\b. a b) a) x", "fb", "(\\a. a a) x"), ("(\\a. (\\b. a b) a) x", "", "(\\b. x b) x"),
            ("\\c. (\\a b. a b c) (c x)", "b", "\\c b. c x b c"), ("(\\a. a x) (\\b. b)", "", "(\\b. b) x"),
        ):
            with self.subTest(text=text, place=place):
                self.assertEqual(step(term_of(text), place), term_of(wanted))

    def test_omega_leads_to_itself(self):
        self.assertEqual(step(OMEGA, ""), OMEGA)

    def test_all_redexes_of_small_and_larger_terms(self):
        for tree in SMALL + LARGER:
            for place in helper.redexes_of(tree):
                self.assertEqual(
                    step(helper.flat(tree), place), helper.flat(helper.stepped(tree, place)))

    def test_places_that_are_no_redexes(self):
        for tree in helper.trees_up_to(6, (0,)) + LARGER[:20]:
            term = helper.flat(tree)
            known = helper.redexes_of(tree)
            for place in places(term) + STRINGS + NO_PLACES:
                if place not in known:
                    self.assertRaises(NoRedex, step, term, place)

    def test_places_of_terms_nested_deep(self):
        term = ("lam",) * 991 + OMEGA
        self.assertEqual(helper.with_little_stack(step, term, "b" * 991), term)
        for place in ("b" * 990, "b" * 992, "b" * 991 + "f", "b" * 991 + "a", "b" * 1000, "b" * 990 + "x"):
            self.assertRaises(NoRedex, helper.with_little_stack, step, term, place)
        term = ("app",) * 332 + IDENTITY * 333
        self.assertEqual(
            helper.with_little_stack(step, term, "f" * 331), ("app",) * 331 + IDENTITY * 332)
        term = ("app", "lam", 0) * 333 + (5,)
        for many in (0, 1, 200, 332):
            self.assertEqual(
                helper.with_little_stack(step, term, "a" * many), ("app", "lam", 0) * 332 + (5,))
        self.assertRaises(NoRedex, step, term, "a" * 333)

    def test_results_of_1000_and_1001_nodes(self):
        # (\a. a a) applied to an argument: 1 more than twice its size.
        double = ("app", "lam", "app", 0, 0)
        for front, size in ((1, 499), (3, 498), (201, 399), (401, 299)):
            for argument in (helper.lam_chain(size), ("lam",) * (size - 1) + (7 + size,)):
                term = ("lam",) * front + double + argument
                result = helper.with_little_stack(step, term, "b" * front)
                self.assertEqual(len(result), 1000)
                self.assertIs(is_term(result), True)
                longer = ("lam",) * (front + 1) + double + argument
                self.assertRaises(TooLarge, step, longer, "b" * (front + 1))
        # The part is small enough, but not the whole term.
        for behind, wanted in ((498, 1000), (499, 1001)):
            term = ("app",) + double + helper.lam_chain(250) + helper.lam_chain(behind)
            if wanted == 1000:
                self.assertEqual(len(step(term, "f")), 1000)
            else:
                self.assertRaises(TooLarge, step, term, "f")

    def test_results_much_too_large(self):
        term = ("app", "lam") + helper.function_chain(499) + helper.lam_chain(499)
        self.assertRaises(TooLarge, helper.with_little_stack, step, term, "")

    def test_variables_at_and_beyond_the_greatest_one(self):
        for body, argument, wanted in (
            ((0,), (1000000,), (1000000,)), (("lam", 1), (999999,), ("lam", 1000000)),
            (("lam", 0), (1000000,), ("lam", 0)), ((1000000,), (0,), (999999,)),
            (("lam", "lam", 2), (999998,), ("lam", "lam", 1000000)),
            (("app", 0, 1000000), (1000000,), ("app", 1000000, 999999)),
        ):
            self.assertEqual(step(("app", "lam") + body + argument, ""), wanted)
        for body, argument in (
            (("lam", 1), (1000000,)), (("lam", "lam", 2), (999999,)), (("app", 0, "lam", 1), (1000000,)),
            (("lam", 1), ("lam", 1000000)),
        ):
            self.assertRaises(TooLarge, step, ("app", "lam") + body + argument, "")
            self.assertRaises(TooLarge, step, ("lam", "app", "lam") + body + argument, "b")

    def test_no_redex_comes_before_too_large(self):
        term = ("app", "lam", "app", 0, 0) + helper.lam_chain(900)
        self.assertRaises(TooLarge, step, term, "")
        self.assertRaises(NoRedex, step, term, "f")
        self.assertRaises(NoRedex, step, term, "fb")

    def test_terms_somewhat_beyond_the_limits(self):
        term = ("app", "lam", 0) + helper.lam_chain(999)
        self.assertEqual(step(term, ""), helper.lam_chain(999))
        self.assertEqual(step(("app", "lam", 1) + helper.lam_chain(1002), ""), (0,))
        self.assertEqual(step(("app", "lam", 1, 1000001), ""), (0,))
        self.assertRaises(TooLarge, step, ("app", "lam", 0) + helper.lam_chain(1001), "")
        self.assertRaises(TooLarge, step, ("app", "app", "lam", 0, 0, 1000001), "f")


class PuttingAndSteps(unittest.TestCase):
    """Point 10."""

    def test_steps_and_putting_go_together(self):
        values = [("lam", 0), (3,), ("lam", "app", 0, 1), OMEGA]
        for tree in helper.trees_up_to(6, (0, 1)) + LARGER[:60]:
            term = helper.flat(tree)
            for place in helper.redexes_of(tree):
                for value in values:
                    self.assertEqual(step(put(term, value), place), put(step(term, place), value))

    def test_what_a_closed_term_leads_to_is_closed(self):
        for tree in helper.random_trees(4, 150, 40, 0):
            term = ("lam",) * 2 + helper.flat(tree)
            if free(term) == []:
                for place in redexes(term):
                    self.assertEqual(free(step(term, place)), [])


class Roads(unittest.TestCase):
    TERM = term_of("(\\a. a a) ((\\b. b) x)")
    END = term_of("x x")

    def test_the_empty_road(self):
        for term in (self.TERM, (0,), helper.lam_chain(1000)):
            self.assertEqual(follow(term, []), term)
            self.assertEqual(passed(term, []), [term])

    def test_examples(self):
        first, second = term_of("(\\b. b) x ((\\b. b) x)"), term_of("(\\b. b) x x")
        self.assertEqual(follow(self.TERM, ["", "a", "f"]), self.END)
        self.assertEqual(passed(self.TERM, ["", "a", "f"]), [self.TERM, first, second, self.END])
        self.assertEqual(follow(self.TERM, ["a", ""]), self.END)
        self.assertEqual(passed(self.TERM, ["a"]), [self.TERM, term_of("(\\a. a a) x")])
        self.assertEqual(passed(OMEGA, [""] * 30), [OMEGA] * 31)

    def test_roads_from_many_terms(self):
        source = random.Random(1)
        for tree in LARGER:
            road, end = helper.random_road(source, tree, 8)
            term = helper.flat(tree)
            terms = [tree]
            for place in road:
                terms.append(helper.stepped(terms[-1], place))
            self.assertEqual(terms[-1], end)
            self.assertEqual(passed(term, road), [helper.flat(tree) for tree in terms])
            self.assertEqual(follow(term, road), helper.flat(end))

    def test_a_place_too_many_or_a_wrong_one(self):
        for road in (
            ["", "a", "f", ""], ["", "a", "f", "f"], ["a", "a"], ["", "b"], ["f"], ["", ""], ["x"],
            ["", "a", "a"], ["", "a", "f", "x"], ["a", "", "a"], ["", "f", "f"],
        ):
            self.assertRaises(NoRedex, follow, self.TERM, road)
            self.assertRaises(NoRedex, passed, self.TERM, road)

    def test_the_first_error_of_two(self):
        grows = ("app", "lam", "app", 0, 0) + ("lam",) * 498 + IDENTITY
        term = ("app",) + grows + ("app", "lam", 0, 7)
        for function in (follow, passed):
            self.assertRaises(TooLarge, function, term, ["f", "b"])
            self.assertRaises(NoRedex, function, term, ["b", "f"])
            self.assertRaises(TooLarge, function, term, ["a", "f", "x"])
            self.assertRaises(NoRedex, function, term, ["a", "a", "f"])
            self.assertRaises(NoRedex, function, term, ["a", "x", "f"])

    def test_roads_stay_as_they_are(self):
        for road in (["", "a", "f"], ["a", ""], [], ["a", "a"]):
            before = list(road)
            for function in (follow, passed):
                try:
                    function(self.TERM, road)
                except LyditeError:
                    pass
                self.assertEqual(road, before)

    def test_a_changed_result_changes_no_later_one(self):
        road = ["", "a"]
        found = passed(self.TERM, road)
        found.clear()
        self.assertEqual(len(passed(self.TERM, road)), 3)
        road.append("f")
        self.assertEqual(len(passed(self.TERM, road)), 4)
        self.assertIsNot(passed(self.TERM, road), passed(self.TERM, road))

    def test_terms_nested_deep(self):
        term = ("app", "lam", 0) * 333 + (5,)
        self.assertEqual(helper.with_little_stack(follow, term, [""] * 333), (5,))
        found = helper.with_little_stack(passed, term, ["a" * n for n in reversed(range(333))])
        self.assertEqual([len(term) for term in found], list(range(1000, 0, -3)))

    def test_terms_somewhat_beyond_the_limits(self):
        term = ("app", "lam", 1) + helper.lam_chain(999)
        self.assertEqual(len(term), 1002)
        self.assertEqual(follow(term, [""]), (0,))
        self.assertRaises(TooLarge, follow, helper.lam_chain(1001), [])
        self.assertRaises(TooLarge, passed, helper.lam_chain(1001), [])
        self.assertRaises(NoRedex, follow, helper.lam_chain(1001), [""])


if __name__ == "__main__":
    unittest.main()
