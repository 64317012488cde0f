import itertools
import random
import unittest

from lydite.errors import OutOfSteps, TooLarge
from lydite.heads import head, head_normal, is_below, known, least_above, with_head
from lydite.notation import parse
from lydite.order import first_steps
from lydite.roads import follow, step
from lydite.terms import is_term
from tests import helper

SMALL = helper.trees_up_to(7, (0, 1))
LARGER = helper.random_trees(81, 150, 40)
OMEGA = ("app", "lam", "app", 0, 0, "lam", "app", 0, 0)
GROWING = ("app",) + ("lam", "app", "app", 0, 0, 0) * 2
# Partial trees: "?" is written as a variable that is no number.
PARTIAL = helper.trees_up_to(5, (0, 1, -1))


def term_of(text):
    return parse(text, ["x", "y", "z"])


def shape(tree):
    """Return the abstractions, the head and the arguments of a tree."""
    count, arguments = 0, []
    while helper.is_lam(tree):
        tree = tree[1]
        count += 1
    while not isinstance(tree, int) and tree[0] == "app":
        arguments.insert(0, tree[2])
        tree = tree[1]
    return count, tree, arguments


def known_tree(tree):
    """Return what is known of a tree, by the words of point 24."""
    count, top, arguments = shape(tree)
    if not isinstance(top, int):
        return -1
    for argument in arguments:
        top = ("app", top, known_tree(argument))
    for _ in range(count):
        top = ("lam", top)
    return top


def partial(tree):
    """Return the partial term of a tree in which -1 stands for "?"."""
    return tuple("?" if node == -1 else node for node in helper.flat(tree))


def below(first, second):
    """Return True if a partial tree is below another one."""
    if first == -1:
        return True
    if isinstance(first, int) or isinstance(second, int):
        return first == second
    return first[0] == second[0] and all(map(below, first[1:], second[1:]))


def above(first, second):
    """Return the least partial tree above both, or None."""
    if first == -1 or second == -1:
        return max(first, second, key=lambda tree: tree != -1)
    if isinstance(first, int) or isinstance(second, int):
        return first if first == second else None
    parts = [above(mine, other) for mine, other in zip(first[1:], second[1:])]
    if first[0] != second[0] or None in parts:
        return None
    return (first[0],) + tuple(parts)


class Head(unittest.TestCase):
    def test_terms_with_a_head(self):
        for term, wanted in (
            ((0,), (0, 0, [])), ((1000000,), (0, 1000000, [])), (("lam", 0), (1, 0, [])),
            (("lam", "lam", 7), (2, 7, [])), (("app", 3, 4), (0, 3, [(4,)])),
            (("lam", "app", "app", 0, 1, "lam", 2), (1, 0, [(1,), ("lam", 2)])),
            (("lam", "app", 5, "app", "lam", 0, 1), (1, 5, [("app", "lam", 0, 1)])),
            (("app", "app", "app", 9, 1, 2, 3), (0, 9, [(1,), (2,), (3,)])),
            (("app", 0, "app", 1, 2), (0, 0, [("app", 1, 2)])),
            (("lam", "lam", "app", "app", 1, "app", 0, 0, "lam", "app", 0, 1), (2, 1, [("app", 0, 0), ("lam", "app", 0, 1)])),
        ):
            with self.subTest(term=term):
                self.assertEqual(head(term), wanted)
                self.assertEqual(with_head(*wanted), term)

    def test_terms_without_a_head(self):
        for text in (
            "(\\a. a) x", "\\a. (\\b. b) a", "(\\a. a) x y", "\\a b. (\\c. c) x y z", "(\\a b. a) x y",
            "(\\a. x) ((\\a. a) x)", "(\\a. (\\b. b) a) x",
        ):
            self.assertIs(head(term_of(text)), None)
        self.assertIs(head(OMEGA), None)

    def test_all_small_and_some_larger_terms(self):
        for tree in SMALL + LARGER:
            count, top, arguments = shape(tree)
            wanted = None
            if isinstance(top, int):
                wanted = (count, top, [helper.flat(argument) for argument in arguments])
            self.assertEqual(head(helper.flat(tree)), wanted)

    def test_many_abstractions_and_arguments(self):
        self.assertEqual(helper.with_little_stack(head, helper.lam_chain(1000, 3)), (999, 3, []))
        self.assertEqual(helper.with_little_stack(head, helper.function_chain(999)), (0, 0, [(0,)] * 499))
        self.assertEqual(
            helper.with_little_stack(head, helper.argument_chain(999)), (0, 0, [helper.argument_chain(997)]))
        term = ("lam",) * 400 + helper.function_chain(599, 7)
        self.assertEqual(head(term), (400, 7, [(7,)] * 299))
        term = ("lam",) * 500 + ("app",) * 249 + ("lam", 0) + (1,) * 249
        self.assertIs(helper.with_little_stack(head, term), None)

    def test_a_changed_result_changes_no_later_one(self):
        term = ("app", 3, 4)
        head(term)[2].append((5,))
        self.assertEqual(head(term), (0, 3, [(4,)]))


class WithHead(unittest.TestCase):
    def test_head_gives_it_back(self):
        for count, variable, arguments in itertools.product(
            (0, 1, 5), (0, 3, 1000000), ([], [(0,)], [("lam", 0), ("app", 1, 2)], [OMEGA, (5,), (6,)]),
        ):
            before = list(arguments)
            term = with_head(count, variable, arguments)
            self.assertIs(is_term(term), True)
            self.assertEqual(head(term), (count, variable, arguments))
            self.assertEqual(arguments, before)
            self.assertIsNot(head(term)[2], arguments)

    def test_up_to_1000_nodes(self):
        for count, arguments in (
            (999, []), (0, [(1,)] * 499), (1, [(1,)] * 499), (500, [helper.lam_chain(498)]),
            (10, [helper.lam_chain(400), helper.lam_chain(587)]),
        ):
            term = with_head(count, 4, arguments)
            self.assertGreaterEqual(len(term), 999)
            self.assertIs(is_term(term), True)
            self.assertEqual(helper.with_little_stack(head, term), (count, 4, arguments))
            if len(term) == 1000:
                self.assertRaises(TooLarge, with_head, count + 1, 4, arguments)
            self.assertRaises(TooLarge, with_head, count, 4, arguments + [(0,)])
        self.assertRaises(TooLarge, with_head, 1000, 0, [])
        self.assertRaises(TooLarge, with_head, 0, 0, [helper.lam_chain(999)])
        self.assertEqual(len(with_head(0, 0, [helper.lam_chain(998)])), 1000)

    def test_variables_that_are_too_great(self):
        self.assertRaises(TooLarge, with_head, 0, 1000001, [])
        self.assertRaises(TooLarge, with_head, 0, 0, [(1000001,)])


class HeadNormal(unittest.TestCase):
    def test_terms_that_have_a_head(self):
        for term in [(0,), ("lam", 0), ("app", 0) + OMEGA, ("lam", "app", "app", 0) + OMEGA + (1,)]:
            for steps in (0, 1, 20000):
                self.assertEqual(head_normal(term, steps), (term, 0))
        for term in (helper.lam_chain(1000), helper.function_chain(999), helper.argument_chain(999)):
            self.assertEqual(helper.with_little_stack(head_normal, term, 0), (term, 0))

    def test_exactly_as_many_steps_as_needed(self):
        for text, wanted, steps in (
            ("(\\a. a) x", "x", 1), ("\\a. (\\b. b) a", "\\a. a", 1), ("(\\a. a y) x", "x y", 1),
            ("(\\a. x a) ((\\b. b) y)", "x ((\\b. b) y)", 1), ("(\\a. a y) (\\b. b)", "y", 2),
            ("(\\a b. b) x y z", "y z", 2), ("(\\a. a a) (\\b. b)", "\\b. b", 2),
            ("\\a. (\\b c. c b) a ((\\d. d) x)", "\\a. x a", 3),
            ("(\\a. (\\b. b) a) x ((\\b. b) y)", "x ((\\b. b) y)", 2),
        ):
            with self.subTest(text=text):
                for given in (steps, steps + 1, 20000):
                    self.assertEqual(head_normal(term_of(text), given), (term_of(wanted), steps))
                for given in range(steps):
                    self.assertRaises(OutOfSteps, head_normal, term_of(text), given)

    def test_terms_that_get_no_head(self):
        for steps in (0, 1, 100, 5000):
            self.assertRaises(OutOfSteps, head_normal, OMEGA, steps)
        self.assertRaises(OutOfSteps, head_normal, ("lam", "app") + OMEGA + (0,), 500)
        self.assertRaises(OutOfSteps, head_normal, ("lam",) * 991 + OMEGA, 300)

    def test_terms_that_grow_too_large(self):
        self.assertRaises(OutOfSteps, head_normal, GROWING, 141)
        self.assertRaises(TooLarge, head_normal, GROWING, 142)
        grown = ("app", "lam", "app", 0, 0) + helper.lam_chain(500)
        self.assertRaises(OutOfSteps, head_normal, grown, 0)
        self.assertRaises(TooLarge, head_normal, grown, 1)
        # A redex that is not the head redex is not stepped.
        self.assertEqual(head_normal(("app", 7) + grown, 5), (("app", 7) + grown, 0))
        self.assertRaises(TooLarge, head_normal, ("app", "lam", "lam", 1, 1000000), 1)

    def test_it_steps_at_the_first_redex(self):
        reached = 0
        for tree in LARGER + SMALL:
            term, steps = helper.flat(tree), 0
            while head(term) is None and steps < 20 and len(term) < 500:
                term = step(term, first_steps(term, 1)[0])
                steps += 1
            if head(term) is not None:
                reached += steps > 0
                self.assertEqual(head_normal(helper.flat(tree), steps), (term, steps))
            if steps > 0:
                self.assertRaises(OutOfSteps, head_normal, helper.flat(tree), steps - 1)
        self.assertGreater(reached, 80)

    def test_whatever_road_leads_to_a_head(self):
        source = random.Random(82)
        reached = 0
        for tree in LARGER * 2:
            road, _ = helper.random_road(source, tree, 8)
            term = follow(helper.flat(tree), road)
            if head(term) is not None:
                reached += 1
                count, variable, arguments = head(term)
                try:
                    found, _ = head_normal(helper.flat(tree), 300)
                except TooLarge:
                    continue
                mine = head(found)
                self.assertEqual((mine[0], mine[1], len(mine[2])), (count, variable, len(arguments)))
        self.assertGreater(reached, 50)

    def test_terms_nested_deep(self):
        term = ("app", "lam", 0) * 333 + (5,)
        self.assertEqual(helper.with_little_stack(head_normal, term, 333), ((5,), 333))
        term = ("lam",) * 500 + ("app",) * 100 + ("lam", 0) + ("lam", 0) * 99 + (5,)
        self.assertEqual(helper.with_little_stack(head_normal, term, 100), (("lam",) * 500 + (5,), 100))


class Known(unittest.TestCase):
    def test_examples(self):
        for term, wanted in (
            ((0,), (0,)), (("lam", 0), ("lam", 0)), (OMEGA, ("?",)), (("lam",) + OMEGA, ("?",)),
            (("app", 3) + OMEGA, ("app", 3, "?")), (("lam", "app", 0) + OMEGA, ("lam", "app", 0, "?")),
            (("app", "app", 3) + OMEGA + (4,), ("app", "app", 3, "?", 4)),
            (("app",) + OMEGA + (4,), ("?",)), (("app", "lam", 0, 5), ("?",)), (("lam", "app", "lam", 0, 5), ("?",)),
            (("app", 3, "lam", "app", 0, "app", "lam", 0, 1), ("app", 3, "lam", "app", 0, "?")),
            (("app", "app", 1, "app", 2) + OMEGA + ("app", "app", 3, 4) + OMEGA,
             ("app", "app", 1, "app", 2, "?", "app", "app", 3, 4, "?")),
        ):
            with self.subTest(term=term):
                self.assertEqual(known(term), wanted)

    def test_all_small_and_some_larger_terms(self):
        for tree in SMALL + LARGER:
            self.assertEqual(known(helper.flat(tree)), partial(known_tree(tree)))

    def test_terms_nested_deep(self):
        for term in helper.long_terms(1000):
            self.assertEqual(helper.with_little_stack(known, term), term)
        self.assertEqual(helper.with_little_stack(known, ("lam",) * 991 + OMEGA), ("?",))
        term = ("app", 2) * 495 + OMEGA
        self.assertEqual(helper.with_little_stack(known, term), ("app", 2) * 495 + ("?",))
        term = ("app",) * 99 + (1,) + OMEGA * 99
        self.assertEqual(known(term), ("app",) * 99 + (1,) + ("?",) * 99)

    def test_terms_somewhat_beyond_the_limits(self):
        # By point 3 only the result counts.
        for size, fits in ((1000, True), (1001, False)):
            inner = helper.lam_chain(size)
            if fits:
                self.assertEqual((known(inner), head(("app", 3) + inner)), (inner, (0, 3, [inner])))
            else:
                self.assertRaises(TooLarge, known, inner)
                self.assertRaises(TooLarge, head, ("app", 3) + inner)
        self.assertEqual(known(("app", 3) + OMEGA[:1] + helper.lam_chain(1001) + (4,)), ("app", 3, "?"))

    def test_it_grows_along_roads(self):
        source = random.Random(83)
        grown = 0
        for tree in LARGER:
            road, _ = helper.random_road(source, tree, 6)
            term = helper.flat(tree)
            for place in road:
                after = step(term, place)
                self.assertIs(is_below(known(term), known(after)), True)
                grown += known(term) != known(after)
                term = after
        self.assertGreater(grown, 50)

    def test_there_is_one_above_what_two_roads_show(self):
        source = random.Random(84)
        others = 0
        for tree in LARGER * 6:
            first = known(helper.flat(helper.random_road(source, tree, 5)[1]))
            second = known(helper.flat(helper.random_road(source, tree, 5)[1]))
            both = least_above(first, second)
            self.assertIs(is_below(first, both) and is_below(second, both), True)
            others += both != first and both != second
        self.assertGreater(others, 2)


class IsBelow(unittest.TestCase):
    def test_examples(self):
        for first, second, wanted in (
            (("?",), ("?",), True), (("?",), (0,), True), (("?",), OMEGA, True), ((0,), ("?",), False),
            ((0,), (0,), True), ((0,), (1,), False), (("app", "?", "?"), ("app", 1, 2), True),
            (("app", "?", 2), ("app", "lam", 0, 2), True), (("app", "?", 2), ("app", "lam", 2, 0), False),
            (("app", "?", 2), ("lam", 2), False), (("lam", "?"), ("lam", "lam", 0), True),
            (("lam", "?"), ("app", 0, 0), False), (("lam", "?"), ("?",), False), (("app", 1, "?"), ("app", "?", 1), False),
            (("app", 1, "?"), ("app", 1, "?"), True), (("app", "?", "?"), ("?",), False),
            (("app", "lam", "?", 7), ("app", "lam", "app", 0, "lam", 1, 7), True), (("lam", 0), (0,), False),
            ((0,), ("lam", 0), False), (("app", 0, 0), ("app", 0, "app", 0, 0), False),
        ):
            with self.subTest(first=first, second=second):
                self.assertIs(is_below(first, second), wanted)

    def test_all_pairs_of_small_partial_terms(self):
        for first, second in itertools.product(PARTIAL, PARTIAL):
            self.assertIs(is_below(partial(first), partial(second)), below(first, second))

    def test_terms_nested_deep(self):
        for term in helper.long_terms(1000):
            self.assertIs(helper.with_little_stack(is_below, term, term), True)
            self.assertIs(is_below(("?",), term), True)
            self.assertIs(is_below(term, ("?",)), False)
            self.assertIs(is_below(term[:-1] + ("?",), term), True)
            self.assertIs(is_below(term, term[:-1] + ("?",)), False)
            self.assertIs(is_below(term[:-1] + (5,), term), False)


class LeastAbove(unittest.TestCase):
    def check(self, first, second, wanted):
        self.assertEqual(helper.with_little_stack(least_above, first, second), wanted)
        self.assertEqual(helper.with_little_stack(least_above, second, first), wanted)
        if wanted is not None:
            self.assertIs(is_below(first, wanted), True)
            self.assertIs(is_below(second, wanted), True)

    def test_examples(self):
        for first, second, wanted in (
            (("?",), ("?",), ("?",)), (("?",), (0,), (0,)), (("?",), OMEGA, OMEGA), ((3,), (3,), (3,)),
            (("app", "?", 2), ("app", 1, "?"), ("app", 1, 2)), (("app", "?", "?"), ("app", 1, "?"), ("app", 1, "?")),
            (("app", "lam", "?", 2), ("app", "?", "?"), ("app", "lam", "?", 2)),
            (("app", "app", "?", 1, "?"), ("app", "app", "lam", 5, "?", "lam", "?"), ("app", "app", "lam", 5, 1, "lam", "?")),
        ):
            self.check(first, second, wanted)

    def test_none(self):
        for first, second in (
            ((0,), (1,)), ((0,), ("lam", 0)), ((0,), ("app", 0, 0)), (("lam", "?"), ("app", "?", "?")),
            (("app", "?", 1), ("app", "?", 2)), (("app", 1, "?"), ("app", 2, "?")), (("lam", "lam", "?"), ("lam", 0)),
            (("app", "?", "app", 1, "?"), ("app", "lam", 0, "app", 2, "?")),
            (("app", "app", "?", 1, 3), ("app", "app", OMEGA[0]) + OMEGA[1:] + (1, 4)),
        ):
            self.check(first, second, None)

    def test_all_pairs_of_small_partial_terms(self):
        for first, second in itertools.product(PARTIAL, PARTIAL):
            wanted = above(first, second)
            found = least_above(partial(first), partial(second))
            self.assertEqual(found, None if wanted is None else partial(wanted))

    def test_it_is_the_least_one(self):
        for first, second in itertools.product(PARTIAL[::3], PARTIAL[::3]):
            found = least_above(partial(first), partial(second))
            for third in PARTIAL[::5]:
                if below(first, third) and below(second, third):
                    self.assertIs(is_below(found, partial(third)), True)

    def test_results_of_1000_and_1001_nodes(self):
        for size in (499, 500):
            first = ("lam", "app") + helper.lam_chain(size) + ("?",)
            for other in (498, 499):
                second = ("lam", "app", "?") + helper.lam_chain(other)
                if size + other + 2 <= 1000:
                    self.check(first, second, ("lam", "app") + helper.lam_chain(size) + helper.lam_chain(other))
                else:
                    self.assertRaises(TooLarge, least_above, first, second)
                    self.assertRaises(TooLarge, least_above, second, first)
        for term in helper.long_terms(1000):
            self.check(term, ("?",), term)
            self.check(term, term, term)
            self.check(term[:-1] + ("?",), term, term)

    def test_none_comes_before_too_large(self):
        first = ("app", "app") + helper.lam_chain(600) + ("?", 3)
        second = ("app", "app", "?") + helper.lam_chain(600)
        self.assertRaises(TooLarge, least_above, first, second + (3,))
        self.assertRaises(TooLarge, least_above, first, second + ("?",))
        self.check(first, second + (4,), None)


if __name__ == "__main__":
    unittest.main()
