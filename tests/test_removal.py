import random
import unittest

from lydite.errors import LyditeError, NoPlace, NoRedex, OutOfSteps, TooLarge
from lydite.notation import parse, show
from lydite.order import normal
from lydite.places import part, places
from lydite.removal import expand, follow_mixed, fully_normal, needless, remove, shrink
from lydite.roads import redexes, step
from lydite.terms import is_term
from tests import helper

SMALL = helper.trees_up_to(6, (0, 1)) + helper.trees(7, (0, 1))
LARGER = helper.random_trees(71, 150, 40)
OMEGA = ("app", "lam", "app", 0, 0, "lam", "app", 0, 0)
GROWING = ("app",) + ("lam", "app", "app", 0, 0, 0) * 2


def term_of(text):
    return parse(text, ["x", "y", "z"])


def text_of(term):
    return show(term, ["x", "y", "z"])


def expanded(tree, source, many):
    """Return the tree with many needless abstractions put in, and their places."""
    found = []
    for _ in range(many):
        place, inner = source.choice(helper.parts(tree))
        value = ("lam", ("app", helper.lifted(inner, 1), 0))
        tree = helper.with_part(tree, place, value)
        found.append(place)
    return tree, found


class Needless(unittest.TestCase):
    def check(self, text, wanted):
        with self.subTest(text=text):
            self.assertEqual(needless(term_of(text)), wanted)

    def test_at_several_places(self):
        self.check("\\a. x a", [""])
        self.check("x (\\a. y a) (\\b. z b)", ["fa", "a"])
        self.check("(\\a. x a) y", ["f"])
        self.check("\\a. a (\\b. a b)", ["ba"])
        self.check("(\\a. x a) (\\b. (\\c. y c) (\\d. z d))", ["f", "abf", "aba"])
        self.check("\\a. x y z a", [""])
        self.check("\\a. (\\b. b) a", [""])

    def test_inside_one_another(self):
        self.check("\\a. (\\b. x b) a", ["", "bf"])
        self.check("\\a b. x a b", ["b"])
        self.check("\\a b c. x a b c", ["bb"])
        self.check("\\a. x (\\b. y b) a", ["", "bfa"])
        self.check("\\a. (\\b. (\\c. x c) b) a", ["", "bf", "bfbf"])

    def test_nearly_needless(self):
        for text in (
            "x", "\\a. a", "\\a. x", "\\a. a a", "\\a. x a a", "\\a. (x a) a", "\\a. x y", "\\a b. b a", "\\a b. x a",
            "\\a. x (a a)", "\\a. x (\\b. a)", "\\a. (\\b. a) a", "\\a. (\\b. b a) a", "\\a b. a x b b",
            "x y", "\\a. x (\\b. b)", "\\a b. x b a", "\\a. a x", "\\a b. (\\c. b) b",
        ):
            self.check(text, [])

    def test_the_variable_in_s_by_its_depth(self):
        # In s the variable 0 of the part has the number of the abstractions around.
        self.assertEqual(needless(("lam", "app", "lam", 0, 0)), [""])
        self.assertEqual(needless(("lam", "app", "lam", 1, 0)), [])
        self.assertEqual(needless(("lam", "app", "lam", 2, 0)), [""])
        self.assertEqual(needless(("lam", "app", "lam", "lam", 2, 0)), [])
        self.assertEqual(needless(("lam", "app", 1000000, 0)), [""])

    def test_all_small_and_some_larger_terms(self):
        for tree in SMALL + LARGER:
            self.assertEqual(needless(helper.flat(tree)), helper.needless_of(tree))

    def test_terms_nested_deep(self):
        for term in helper.long_terms(1000):
            self.assertEqual(helper.with_little_stack(needless, term), [])
        term = ("lam", "app") * 333 + (1,) + (0,) * 333
        # The last abstraction but one has the variable 1 of the last one.
        wanted = ["bf" * n for n in range(331)] + ["bf" * 332]
        self.assertEqual(helper.with_little_stack(needless, term), wanted)
        term = ("lam", "app", 0) * 332 + ("lam", "app", 3, 0)
        self.assertEqual(helper.with_little_stack(needless, term), ["ba" * 332])

    def test_a_changed_result_changes_no_later_one(self):
        term = term_of("\\a. x a")
        needless(term).clear()
        self.assertEqual(needless(term), [""])


class Remove(unittest.TestCase):
    def test_examples(self):
        for text, place, wanted in (
            ("\\a. x a", "", "x"), ("\\a. (\\b. x b) a", "", "\\b. x b"), ("\\a. (\\b. x b) a", "bf", "\\a. x a"),
            ("\\a b. x a b", "b", "\\a. x a"), ("x (\\a. y a) (\\b. z b)", "a", "x (\\a. y a) z"),
            ("x (\\a. y a) (\\b. z b)", "fa", "x y (\\b. z b)"), ("(\\a. (\\b. b) a) x", "f", "(\\b. b) x"),
            ("\\a b. y b a (\\c. (\\d. b d) c)", "bba", "\\a b. y b a (\\d. b d)"),
        ):
            with self.subTest(text=text, place=place):
                self.assertEqual(text_of(remove(term_of(text), place)), text_of(term_of(wanted)))

    def test_free_variables_decrease(self):
        self.assertEqual(remove(("lam", "app", 1, 0), ""), (0,))
        self.assertEqual(remove(("lam", "app", 1000000, 0), ""), (999999,))
        term = ("lam", "lam", "app", "app", 1, "lam", "app", 0, "app", 2, 7, 0)
        self.assertEqual(remove(term, "b"), ("lam", "app", 0, "lam", "app", 0, "app", 1, 6))
        # Outside of the part no variable changes.
        self.assertEqual(remove(("app", 5, "lam", "app", 6, 0), "a"), ("app", 5, 5))

    def test_all_small_and_some_larger_terms(self):
        for tree in SMALL + LARGER:
            for place in helper.needless_of(tree):
                wanted = helper.flat(helper.removed(tree, place))
                self.assertEqual(remove(helper.flat(tree), place), wanted)

    def test_no_needless_abstraction(self):
        term = term_of("\\a. (\\b. x b) (y a)")
        self.assertEqual(needless(term), ["bf"])
        for place in ("", "b", "bfb", "ba", "bfbf", "bfba", "f", "a", "x", "bb", "bf ", "bfbfb", "B", "fb"):
            with self.subTest(place=place):
                self.assertRaises(NoRedex, remove, term, place)
        for tree in SMALL[::7] + LARGER[:30]:
            found = helper.needless_of(tree)
            for place, _ in helper.parts(tree):
                if place not in found:
                    self.assertRaises(NoRedex, remove, helper.flat(tree), place)
        # A redex is none.
        self.assertRaises(NoRedex, remove, ("app", "lam", 0, 5), "")

    def test_a_removal_of_a_normal_term_is_normal(self):
        for tree in SMALL:
            if not helper.redexes_of(tree):
                for place in helper.needless_of(tree):
                    self.assertEqual(redexes(remove(helper.flat(tree), place)), [])

    def test_terms_nested_deep(self):
        term = ("lam", "app", 0) * 332 + ("lam", "app", 3, 0)
        self.assertEqual(
            helper.with_little_stack(remove, term, "ba" * 332), ("lam", "app", 0) * 332 + (2,))
        term = ("lam", "app") * 333 + tuple(range(333, -1, -1))
        self.assertEqual(len(term), 1000)
        self.assertRaises(NoRedex, helper.with_little_stack, remove, term, "bf" * 333)


class Expand(unittest.TestCase):
    def test_examples(self):
        self.assertEqual(expand((0,), ""), ("lam", "app", 1, 0))
        self.assertEqual(expand(("lam", 0), ""), ("lam", "app", "lam", 0, 0))
        self.assertEqual(expand(("lam", 0), "b"), ("lam", "lam", "app", 1, 0))
        self.assertEqual(expand(("app", 3, 4), "a"), ("app", 3, "lam", "app", 5, 0))
        self.assertEqual(expand(("app", 3, 4), "f"), ("app", "lam", "app", 4, 0, 4))
        self.assertEqual(
            expand(("lam", "app", 0, "lam", "app", 1, 2), "ba"),
            ("lam", "app", 0, "lam", "app", "lam", "app", 2, 3, 0))

    def test_a_removal_gives_the_term_again(self):
        for tree in SMALL[::5] + LARGER:
            term = helper.flat(tree)
            for place in places(term):
                result = expand(term, place)
                self.assertEqual(len(result), len(term) + 3)
                self.assertIn(place, needless(result))
                self.assertEqual(remove(result, place), term)

    def test_no_place(self):
        for term, place in (((0,), "b"), ((0,), "x"), (("lam", 0), "f"), (("lam", 0), "bb"), (("app", 0, 0), "b")):
            self.assertRaises(NoPlace, expand, term, place)
        self.assertRaises(NoPlace, expand, helper.lam_chain(1000), "f")
        self.assertRaises(NoPlace, expand, (1000000,), "a")

    def test_results_of_1000_and_1001_nodes(self):
        for term in helper.long_terms(997):
            for place in (places(term)[0], places(term)[-1], places(term)[500]):
                result = helper.with_little_stack(expand, term, place)
                self.assertEqual((len(result), is_term(result)), (1000, True))
                self.assertEqual(remove(result, place), term)
        for size in (998, 999, 1000):
            for term in helper.long_terms(size):
                self.assertRaises(TooLarge, expand, term, "")
                self.assertRaises(TooLarge, expand, term, places(term)[-1])

    def test_variables_that_become_too_great(self):
        self.assertRaises(TooLarge, expand, (1000000,), "")
        self.assertRaises(TooLarge, expand, ("lam", 1000000), "b")
        self.assertRaises(TooLarge, expand, ("lam", 1000000), "")
        self.assertEqual(expand((999999,), ""), ("lam", "app", 1000000, 0))
        self.assertEqual(expand(("app", 1000000, 0), "a"), ("app", 1000000, "lam", "app", 1, 0))


class FollowMixed(unittest.TestCase):
    def test_the_empty_road(self):
        term = term_of("(\\a. x a) y")
        self.assertEqual(follow_mixed(term, []), term)

    def test_examples(self):
        for text, road, wanted in (
            ("(\\a. x a) y", [("remove", "f")], "x y"), ("(\\a. x a) y", [("step", "")], "x y"),
            ("\\a. (\\b. x b) a", [("remove", ""), ("remove", "")], "x"),
            ("\\a. (\\b. x b) a", [("step", "b"), ("remove", "")], "x"),
            ("\\a. (\\b. b) x a", [("remove", ""), ("step", "")], "x"),
            ("\\a. (\\b. b) x a", [("step", "bf"), ("remove", "")], "x"),
            # a step makes a needless abstraction, a removal makes a redex
            ("\\a. x ((\\b. b) a)", [("step", "ba"), ("remove", "")], "x"),
            ("(\\a. (\\b. b) a) y", [("remove", "f"), ("step", "")], "y"),
        ):
            with self.subTest(text=text, road=road):
                before = list(road)
                self.assertEqual(follow_mixed(term_of(text), road), term_of(wanted))
                self.assertEqual(road, before)

    def test_random_roads(self):
        source = random.Random(72)
        removals = 0
        for tree in LARGER:
            tree, _ = expanded(tree, source, 3)
            term, road = helper.flat(tree), []
            for _ in range(6):
                steps = [("step", place) for place in helper.redexes_of(tree)]
                moves = steps + [("remove", place) for place in helper.needless_of(tree)]
                if not moves or len(helper.flat(tree)) > 250:
                    break
                kind, place = source.choice(moves)
                road.append((kind, place))
                tree = (helper.stepped if kind == "step" else helper.removed)(tree, place)
                removals += kind == "remove"
            self.assertEqual(follow_mixed(term, road), helper.flat(tree))
        self.assertGreater(removals, 100)

    def test_pairs_of_the_other_kind_too_many_and_too_few(self):
        term = term_of("(\\a. x a) ((\\b. b) y)")
        road = [("step", "a"), ("remove", "f")]
        self.assertEqual(follow_mixed(term, road), term_of("x y"))
        for wrong in (
            [("remove", "a"), ("remove", "f")], [("step", "a"), ("step", "f")], road + [("step", "")],
            road + [("remove", "")], road + [("remove", "f")], [("step", "a"), ("step", "a")],
            [("remove", "f"), ("remove", "f")], [("remove", "")], [("step", "f")], [("step", "x")], [("remove", "x")],
            [("remove", "fbfb"), ("step", "")],
        ):
            with self.subTest(wrong=wrong):
                self.assertRaises(NoRedex, follow_mixed, term, wrong)
        # Where the same place is both, the kinds lead to the same term here.
        self.assertEqual(follow_mixed(term, [("step", ""), ("step", "a")]), term_of("x y"))
        self.assertEqual(follow_mixed(term, [("step", "a")]), term_of("(\\a. x a) y"))

    def test_the_first_error_of_two(self):
        grown = ("app", "app", "lam", "app", 0, 0) + helper.lam_chain(500) + ("lam", "app", 8, 0)
        self.assertEqual(needless(grown), ["a"])
        for road, error in (
            ([("step", "f")], TooLarge), ([("remove", "a"), ("step", "f")], TooLarge),
            ([("step", "f"), ("remove", "x")], TooLarge), ([("remove", "x"), ("step", "f")], NoRedex),
            ([("remove", "a"), ("remove", "a"), ("step", "f")], NoRedex),
        ):
            with self.assertRaises(LyditeError) as caught:
                follow_mixed(grown, road)
            self.assertIs(caught.exception.__class__, error)

    def test_long_roads_on_long_terms(self):
        term = ("lam", "app") * 332 + (999,) + (0,) * 332
        self.assertEqual(helper.with_little_stack(follow_mixed, term, [("remove", "")] * 332), (667,))
        inside = [("remove", "bf" * n) for n in reversed(range(332))]
        self.assertEqual(helper.with_little_stack(follow_mixed, term, inside), (667,))
        self.assertRaises(NoRedex, follow_mixed, term, inside + [("remove", "")])


class Shrink(unittest.TestCase):
    def test_terms_without_needless_abstractions(self):
        for term in [(0,), ("lam", 0), ("app", 0, 0), OMEGA] + helper.long_terms(1000):
            self.assertEqual(helper.with_little_stack(shrink, term), (term, 0))

    def test_examples(self):
        for text, wanted, count in (
            ("\\a. x a", "x", 1), ("\\a. (\\b. x b) a", "x", 2), ("\\a b. x a b", "x", 2),
            ("\\a b c. x a b c", "x", 3), ("x (\\a. y a) (\\b. z b)", "x y z", 2),
            # they come up by a removal only
            ("\\a. x (\\b. a b)", "x", 2), ("\\a. (\\b. x b) (\\b. a b)", "x", 3),
            ("\\a. x (\\b c. a b c)", "x", 3), ("\\a b. a (\\c. b (\\d. c d))", "\\a. a", 3),
            ("\\a. a (\\b. x a b)", "\\a. a (x a)", 1), ("\\a b. b a", "\\a b. b a", 0),
            ("(\\a. (\\b. b) a) (\\a. x a)", "(\\b. b) x", 2),
        ):
            with self.subTest(text=text):
                self.assertEqual(shrink(term_of(text)), (term_of(wanted), count))

    def test_whatever_the_order(self):
        source = random.Random(73)
        most = 0
        for tree in SMALL[::3] + LARGER:
            tree, _ = expanded(tree, source, source.randint(0, 6))
            current, count = tree, 0
            while helper.needless_of(current):
                current = helper.removed(current, source.choice(helper.needless_of(current)))
                count += 1
            most = max(most, count)
            self.assertEqual(shrink(helper.flat(tree)), (helper.flat(current), count))
        self.assertGreater(most, 6)

    def test_terms_nested_deep(self):
        term = ("lam", "app") * 332 + (999,) + (0,) * 332
        self.assertEqual(helper.with_little_stack(shrink, term), ((667,), 332))
        # \a. x (\b. a (\c. b ...)): each but the last one comes up by a removal.
        term = ("lam", "app", 1) * 333 + (0,)
        self.assertEqual(helper.with_little_stack(shrink, term), ((0,), 333))
        term = ("app", 7) * 300 + ("lam", "app", 8, 0)
        self.assertEqual(helper.with_little_stack(shrink, term), (("app", 7) * 300 + (7,), 1))


class FullyNormal(unittest.TestCase):
    def test_examples(self):
        for text, wanted, steps in (
            ("x", "x", 0), ("\\a. x a", "x", 0), ("(\\a. a) x", "x", 1), ("\\a. x ((\\b. b) a)", "x", 1),
            ("(\\a b. a b) x", "x", 1), ("(\\a b. a (\\c. b c)) x", "x", 1), ("\\a. (\\b. b) (\\b. b) x a", "x", 2),
            ("(\\a. a a) (\\b. b)", "\\a. a", 2), ("(\\a b. b a) (\\c. y c)", "\\b. b y", 1),
        ):
            with self.subTest(text=text):
                self.assertEqual(fully_normal(term_of(text), steps), term_of(wanted))
                self.assertEqual(fully_normal(term_of(text), steps + 50), term_of(wanted))
                for fewer in range(steps):
                    self.assertRaises(OutOfSteps, fully_normal, term_of(text), fewer)

    def test_raises_as_normal(self):
        self.assertRaises(OutOfSteps, fully_normal, OMEGA, 1000)
        self.assertRaises(OutOfSteps, fully_normal, GROWING, 141)
        self.assertRaises(TooLarge, fully_normal, GROWING, 142)
        # The redex in the part that a removal would not keep counts, too.
        self.assertRaises(OutOfSteps, fully_normal, ("lam", "app") + OMEGA + (0,), 50)

    def test_what_mixed_roads_lead_to(self):
        source = random.Random(74)
        reached = 0
        for tree in LARGER:
            tree, _ = expanded(tree, source, 2)
            start = helper.flat(tree)
            for _ in range(40):
                moves = [(helper.stepped, place) for place in helper.redexes_of(tree)]
                moves += [(helper.removed, place) for place in helper.needless_of(tree)]
                if not moves or len(helper.flat(tree)) > 250:
                    break
                move, place = source.choice(moves)
                tree = move(tree, place)
            if not moves:
                reached += 1
                try:
                    self.assertEqual(fully_normal(start, 20000), helper.flat(tree))
                except TooLarge:
                    pass
        self.assertGreater(reached, 60)

    def test_is_shrinks_term_of_the_normal_term(self):
        checked = 0
        for tree in LARGER:
            try:
                wanted, _ = normal(helper.flat(tree), 50)
            except (OutOfSteps, TooLarge):
                continue
            checked += 1
            result = fully_normal(helper.flat(tree), 50)
            self.assertEqual(result, shrink(wanted)[0])
            self.assertEqual((redexes(result), needless(result)), ([], []))
        self.assertGreater(checked, 60)

    def test_terms_nested_deep(self):
        term = ("lam", "app", 1) * 333 + (0,)
        self.assertEqual(helper.with_little_stack(fully_normal, term, 0), (0,))
        # The step at the first redex leads to the function, each time.
        term = ("lam", "app") * 330 + (999,) + (0,) * 330
        self.assertEqual(helper.with_little_stack(fully_normal, term, 329), (669,))
        self.assertRaises(OutOfSteps, fully_normal, term, 328)
        term = ("app", "lam", 0) * 300 + ("lam", "app", 3, 0)
        self.assertEqual(helper.with_little_stack(fully_normal, term, 300), (2,))


class Together(unittest.TestCase):
    def test_terms_somewhat_beyond_the_limits(self):
        # By point 3 only the result counts.
        for size, fits in ((1000, True), (1001, False)):
            inner = helper.lam_chain(size)
            term = ("lam", "app") + inner + (0,)
            self.assertEqual(needless(term), [""])
            if fits:
                self.assertEqual((remove(term, ""), shrink(term)), (inner, (inner, 1)))
                self.assertEqual((follow_mixed(inner, []), shrink(inner), fully_normal(inner, 0)), (inner, (inner, 0), inner))
            else:
                self.assertRaises(TooLarge, remove, term, "")
                self.assertRaises(TooLarge, shrink, term)
                self.assertRaises(TooLarge, follow_mixed, inner, [])
                self.assertRaises(TooLarge, shrink, inner)

    def test_a_removal_and_a_step_go_together(self):
        # Where both are possible, they lead to terms with the same fully normal term.
        for tree in SMALL:
            term = helper.flat(tree)
            for place in needless(term):
                self.assertEqual(shrink(remove(term, place))[0], shrink(term)[0])
                self.assertEqual(shrink(term)[1], shrink(remove(term, place))[1] + 1)
                self.assertEqual(len(part(term, place)), len(term) - len(remove(term, place)) + len(
                    part(remove(term, place), place)))

    def test_no_answer_depends_on_earlier_calls(self):
        term = term_of("\\a. (\\b. x b) a")
        first = (needless(term), remove(term, ""), shrink(term), expand(term, "b"))
        remove(term, "bf")
        self.assertRaises(NoRedex, remove, term, "b")
        self.assertRaises(NoRedex, step, term, "x")
        self.assertEqual((needless(term), remove(term, ""), shrink(term), expand(term, "b")), first)


if __name__ == "__main__":
    unittest.main()
