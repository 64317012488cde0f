import itertools
import random
import unittest

from lydite.combinators import (
    abstracted, combination_normal, combination_of, combination_redexes, combination_step, is_combination, term_of,
    value_put,
)
from lydite.errors import LyditeError, NoRedex, OutOfSteps, TooLarge
from lydite.notation import parse
from lydite.order import normal
from lydite.roads import follow
from lydite.terms import free, is_term
from tests import helper

# S I I applied to itself leads to itself; S S S (S S S) grows.
SII = ("app", "app", "S", "I", "I")
LOOP = ("app",) + SII + SII


def leaf_trees(size, leaves):
    """Return all combinations of a size as trees, nested tuples."""
    if size == 1:
        return list(leaves)
    return [
        ("app", left, right) for n in range(1, size - 1)
        for left in leaf_trees(n, leaves) for right in leaf_trees(size - 1 - n, leaves)
    ]


def flat(tree):
    if not isinstance(tree, tuple):
        return (tree,)
    return ("app",) + flat(tree[1]) + flat(tree[2])


def tree_of(combination):
    pending = []
    for node in reversed(combination):
        pending.append(("app", pending.pop(), pending.pop()) if node == "app" else node)
    return pending.pop()


def written(text):
    """Return the tree of a combination such as "S (K x) I", applied from left to right."""
    names = {"x": 0, "y": 1, "z": 2}
    stack = [None]
    for token in text.replace("(", " ( ").replace(")", " ) ").split():
        if token == "(":
            stack.append(None)
            continue
        value = stack.pop() if token == ")" else names.get(token, token)
        stack[-1] = value if stack[-1] is None else ("app", stack[-1], value)
    return stack.pop()


def combination(text):
    return flat(written(text))


def zero_in(tree):
    return 0 in flat(tree)


def decreased(tree):
    return tree_of(tuple(node - 1 if isinstance(node, int) else node for node in flat(tree)))


def abstraction_of(tree):
    """Return the abstraction of a tree, by the words of point 41."""
    if tree == 0:
        return "I"
    if not zero_in(tree):
        return ("app", "K", decreased(tree))
    return ("app", ("app", "S", abstraction_of(tree[1])), abstraction_of(tree[2]))


def tree_combined(tree):
    """Return the combination of the tree of a term, by the words of point 41."""
    if isinstance(tree, int):
        return tree
    if tree[0] == "lam":
        return abstraction_of(tree_combined(tree[1]))
    return ("app", tree_combined(tree[1]), tree_combined(tree[2]))


def places_of(tree, place=""):
    found = [place]
    if isinstance(tree, tuple):
        found += places_of(tree[1], place + "f") + places_of(tree[2], place + "a")
    return found


def reduced(tree):
    """Return what the step at the top of a tree leads to, or None."""
    match tree:
        case ("app", "I", a):
            return a
        case ("app", ("app", "K", a), _):
            return a
        case ("app", ("app", ("app", "S", a), b), c):
            return ("app", ("app", a, c), ("app", b, c))
    return None


def redexes_of(tree):
    return [place for place in places_of(tree) if reduced(helper.part_at(tree, place)) is not None]


def stepped(tree, place):
    return helper.with_part(tree, place, reduced(helper.part_at(tree, place)))


SMALL = [tree for size in (1, 3, 5) for tree in leaf_trees(size, ("S", "K", "I", 0, 1))]
LARGER = [tree for size in (7, 9) for tree in leaf_trees(size, ("S", "K", "I", 0))][::11]


class IsCombination(unittest.TestCase):
    def test_combinations(self):
        for value in (("S",), ("K",), ("I",), (0,), (1000000,), ("app", "S", "K"), ("app", "app", "S", 0, "app", "I", 1000000)):
            self.assertIs(is_combination(value), True)

    def test_exactly_the_small_combinations(self):
        known = {flat(tree) for size in (1, 3, 5) for tree in leaf_trees(size, ("S", "I", 7))}
        for size in range(6):
            for value in itertools.product(("app", "S", "I", 7, "lam"), repeat=size):
                self.assertIs(is_combination(value), value in known)

    def test_values_that_are_nearly_one(self):
        for node in (-1, 1000001, True, False, None, "", "s", "k", "B", "C", "SK", "S ", "lam", "to", "?", (), ("S",), [0], ["S"]):
            for value in ((node,), ("app", node, 0), ("app", "S", node), (node, "S", "S"), ("app", "app", "K", 1, node)):
                self.assertIs(is_combination(value), False)
        for value in (
            (), ("app",), ("app", "S"), ("S", "K"), ("app", "S", "K", "I"), ("S", 0), ["S"], ["app", 0, 0], "S", "", 0, -1, None,
            True, False, [("S",)], (("S",),), ("app", ("S",), "K"), ("app", ["S"], "K"),
        ):
            self.assertIs(is_combination(value), False)

    def test_chains_of_999_to_1003_nodes(self):
        for size in (997, 999, 1001, 1003):
            for value in (helper.function_chain(size, "S"), helper.argument_chain(size, "K"), helper.function_chain(size, 5)):
                self.assertEqual(len(value), size)
                self.assertIs(helper.with_little_stack(is_combination, value), size <= 1000)
                self.assertIs(is_combination(value[:-1]), False)
                self.assertIs(is_combination(value + ("S",)), False)
                self.assertIs(is_combination(list(value)), False)


class Abstracted(unittest.TestCase):
    def test_examples(self):
        for text, wanted in (
            ("x", "I"), ("y", "K x"), ("z", "K y"), ("S", "K S"), ("I", "K I"), ("K S", "K (K S)"), ("y z", "K (x y)"),
            ("x x", "S I I"), ("y x", "S (K x) I"), ("x y", "S I (K x)"), ("x (y x)", "S I (S (K x) I)"), ("S x K", "S (S (K S) I) (K K)"),
            ("y z x", "S (K (x y)) I"), ("y x z", "S (S (K x) I) (K y)"),
        ):
            with self.subTest(text=text):
                self.assertEqual(abstracted(combination(text)), combination(wanted))

    def test_all_small_and_some_larger_combinations(self):
        for tree in SMALL + LARGER:
            self.assertEqual(abstracted(flat(tree)), flat(abstraction_of(tree)))

    def test_it_leads_to_the_value_put(self):
        checked = 0
        for tree in SMALL + LARGER:
            for value in (("K",), (5,), ("app", "S", 0)):
                whole = ("app",) + abstracted(flat(tree)) + value
                try:
                    wanted, _ = combination_normal(value_put(flat(tree), value), 100)
                    self.assertEqual(combination_normal(whole, 500)[0], wanted)
                except LyditeError:
                    continue
                checked += 1
        self.assertGreater(checked, 1000)

    def test_results_of_1000_and_1001_nodes(self):
        for size, fits in ((997, True), (999, False)):
            for value in (helper.function_chain(size, 3), helper.argument_chain(size, "S")):
                if fits:
                    self.assertEqual(len(helper.with_little_stack(abstracted, value)), 999)
                else:
                    self.assertRaises(TooLarge, abstracted, value)
        # Each application with the variable 0 gets two more nodes: "app" and "S".
        value = helper.function_chain(499, 0)
        self.assertEqual(helper.with_little_stack(abstracted, value), ("app", "app", "S") * 249 + ("I",) * 250)
        value = helper.argument_chain(499, 0)
        self.assertEqual(len(helper.with_little_stack(abstracted, value)), 250 + 3 * 249)
        for size, fits in ((499, True), (501, False)):
            for value in (helper.function_chain(size, 0), helper.argument_chain(size, 0)):
                if fits:
                    self.assertIs(is_combination(abstracted(value)), True)
                else:
                    self.assertRaises(TooLarge, abstracted, value)

    def test_far_variables(self):
        self.assertEqual(abstracted((1000000,)), ("app", "K", 999999))
        self.assertEqual(abstracted(("app", 0, 1000000)), ("app", "app", "S", "I", "app", "K", 999999))


class CombinationOf(unittest.TestCase):
    def test_examples(self):
        for text, wanted in (
            ("x", "x"), ("x y", "x y"), ("\\a. a", "I"), ("\\a b. a", "S (K K) I"), ("\\a b. b", "K I"), ("\\a. x", "K x"),
            ("\\a. x a", "S (K x) I"), ("\\a. a a", "S I I"), ("(\\a. a a) (\\a. a a)", "S I I (S I I)"), ("\\a. y", "K y"),
            ("\\a b. x", "K (K x)"), ("\\a b. b a", "S (K (S I)) (S (K K) I)"), ("\\a b c. c", "K (K I)"),
        ):
            with self.subTest(text=text):
                self.assertEqual(combination_of(parse(text, ["x", "y"])), combination(wanted))

    def test_all_small_terms(self):
        for tree in helper.trees_up_to(6, (0, 1, 2)) + helper.random_trees(111, 100, 14):
            wanted = flat(tree_combined(tree))
            if len(wanted) <= 1000:
                self.assertEqual(combination_of(helper.flat(tree)), wanted)
            else:
                self.assertRaises(TooLarge, combination_of, helper.flat(tree))

    def test_nested_abstractions(self):
        sizes = [len(combination_of(("lam",) * many + tuple(["app"] * (many - 1) + list(range(many - 1, -1, -1))))) for many in range(1, 8)]
        self.assertEqual(sizes, sorted(set(sizes)))
        self.assertEqual(combination_of(helper.lam_chain(501)), ("app", "K") * 499 + ("I",))
        self.assertRaises(TooLarge, helper.with_little_stack, combination_of, helper.lam_chain(502))
        self.assertEqual(combination_of(("lam",) * 3 + (1000000,)), ("app", "K") * 3 + (999997,))

    def test_closed_terms_have_no_variables(self):
        for tree in helper.settled_trees(7) + [("app", ("lam", 0), ("lam", ("lam", 1)))]:
            found = combination_of(helper.flat(tree))
            self.assertFalse(any(isinstance(node, int) for node in found))

    def test_its_term_leads_to_the_term(self):
        for tree in helper.trees_up_to(5, (0, 1)) + helper.settled_trees(7)[::3] + helper.random_trees(112, 60, 10):
            try:
                wanted, _ = normal(helper.flat(tree), 200)
                found, _ = normal(term_of(combination_of(helper.flat(tree))), 2000)
            except LyditeError:
                continue
            self.assertEqual(found, wanted)

    def test_results_of_1000_and_1001_nodes(self):
        for term in (helper.function_chain(999, 7), helper.argument_chain(999, 7)):
            self.assertEqual(helper.with_little_stack(combination_of, term), term)
        for size, fits in ((499, True), (501, False)):
            term = ("lam",) + helper.function_chain(size, 0)
            if fits:
                self.assertEqual(len(helper.with_little_stack(combination_of, term)), 997)
            else:
                self.assertRaises(TooLarge, combination_of, term)
        # The combinations of both parts fit, but not that of the application.
        part = ("lam",) + helper.function_chain(251, 0)
        self.assertEqual(len(combination_of(part)), 501)
        self.assertRaises(TooLarge, combination_of, ("app",) + part + part)
        other = ("lam",) + helper.function_chain(249, 0)
        self.assertEqual(len(combination_of(("app",) + part + other)), 999)
        # So small a term, and so large a combination.
        self.assertRaises(TooLarge, combination_of, ("lam",) * 10 + ("app",) * 9 + tuple(range(9, -1, -1)))

    def test_variables_that_are_too_great(self):
        self.assertRaises(TooLarge, combination_of, (1000001,))
        self.assertRaises(TooLarge, combination_of, ("app", 0, 1000001))
        self.assertEqual(combination_of(("app", 0, 1000000)), ("app", 0, 1000000))

    def test_terms_nested_deep(self):
        for term in helper.long_terms(400):
            try:
                self.assertIs(is_combination(helper.with_little_stack(combination_of, term)), True)
            except TooLarge:
                pass


class TermOf(unittest.TestCase):
    def test_examples(self):
        self.assertEqual(term_of(("S",)), parse("\\a b c. a c (b c)", []))
        self.assertEqual(term_of(("K",)), parse("\\a b. a", []))
        self.assertEqual(term_of(("I",)), parse("\\a. a", []))
        self.assertEqual(term_of((7,)), (7,))
        self.assertEqual(term_of(combination("S K x (I y)")), parse("(\\a b c. a c (b c)) (\\a b. a) x ((\\a. a) y)", ["x", "y"]))
        self.assertEqual(term_of((1000000,)), (1000000,))

    def test_free_variables_are_the_variables(self):
        for tree in SMALL:
            self.assertEqual(free(term_of(flat(tree))), sorted({n for n in flat(tree) if isinstance(n, int)}))

    def test_results_of_1000_and_1001_nodes(self):
        # A chain of n leaves I has n - 1 + 2 n nodes; S has 10 nodes, K has 3.
        for leaves, fits in (
            (("I",) * 333 + (5,), True), (("I",) * 334, False), (("K",) * 250, True), (("K",) * 250 + (0,), False),
            (("S",) * 91, True), (("S",) * 91 + (0,), False),
        ):
            value = ("app",) * (len(leaves) - 1) + leaves
            size = len(leaves) - 1 + sum({"S": 10, "K": 3, "I": 2}.get(leaf, 1) for leaf in leaves)
            if fits:
                result = helper.with_little_stack(term_of, value)
                self.assertEqual((len(result), is_term(result)), (size, True))
                self.assertLessEqual(size, 1000)
            else:
                self.assertGreater(size, 1000)
                self.assertRaises(TooLarge, term_of, value)
        self.assertEqual(len(term_of(("app",) * 90 + ("S",) * 91)), 1000)
        self.assertRaises(TooLarge, term_of, helper.argument_chain(999, "S"))


class ValuePut(unittest.TestCase):
    def test_examples(self):
        for text, value, wanted in (
            ("x", "S", "S"), ("y", "S", "x"), ("z", "S", "y"), ("S", "K", "S"), ("x x", "K I", "K I (K I)"), ("y x z", "y", "x y y"),
            ("S x (K y)", "x y", "S (x y) (K x)"),
        ):
            self.assertEqual(value_put(combination(text), combination(value)), combination(wanted))

    def test_all_small_combinations(self):
        for tree in SMALL + LARGER:
            for value in ((0,), ("app", 3, "S")):
                wanted = []
                for node in flat(tree):
                    wanted.extend(value if node == 0 else [node - 1] if isinstance(node, int) else [node])
                self.assertEqual(value_put(flat(tree), value), tuple(wanted))

    def test_results_of_1000_and_1001_nodes(self):
        self.assertEqual(len(value_put(("app", 0, 0), helper.function_chain(499))), 999)
        self.assertRaises(TooLarge, value_put, ("app", 0, 0), helper.function_chain(501))
        for value in (helper.function_chain(999, "S"), helper.argument_chain(999, 4)):
            self.assertEqual(helper.with_little_stack(value_put, (0,), value), value)
            self.assertEqual(value_put((7,), value), (6,))
            self.assertRaises(TooLarge, value_put, ("app", 0, 1), value)
        self.assertRaises(TooLarge, value_put, helper.function_chain(999), helper.function_chain(999))
        self.assertEqual(value_put((1000000,), ("S",)), (999999,))
        self.assertEqual(value_put((0,), (1000000,)), (1000000,))


class Redexes(unittest.TestCase):
    def test_examples(self):
        for text, wanted in (
            ("x", []), ("S", []), ("I", []), ("K", []), ("I x", [""]), ("K x", []), ("K x y", [""]), ("S x y", []), ("S x", []),
            ("S x y z", [""]), ("I x y", ["f"]), ("K x y z", ["f"]), ("S x y z x", ["f"]), ("K x y z x", ["ff"]),
            # inside one another
            ("I (I x)", ["", "a"]), ("K (I x) (I y)", ["", "fa", "a"]), ("S (I x) (I y) (I z)", ["", "ffa", "fa", "a"]),
            ("I (K x y) z", ["f", "fa"]), ("K (K x y) z", ["", "fa"]), ("S (K x y z) (S x y z) (S x y)", ["", "ffaf", "fa"]),
            # beside one another
            ("x (I y) (K x y)", ["fa", "a"]), ("I I I", ["f"]), ("x I y", []), ("K I", []), ("x (K y)", []), ("S (I x) y", ["fa"]),
        ):
            with self.subTest(text=text):
                self.assertEqual(combination_redexes(combination(text)), wanted)

    def test_all_small_and_some_larger_combinations(self):
        for tree in SMALL + LARGER:
            self.assertEqual(combination_redexes(flat(tree)), redexes_of(tree))

    def test_combinations_nested_deep(self):
        for leaf in ("S", "K", "I"):
            value = helper.argument_chain(999, leaf)
            wanted = ["a" * n for n in range(499)] if leaf == "I" else []
            self.assertEqual(helper.with_little_stack(combination_redexes, value), wanted)
            many = {"S": 3, "K": 2, "I": 1}[leaf]
            value = helper.function_chain(999, leaf)
            self.assertEqual(helper.with_little_stack(combination_redexes, value), ["f" * (499 - many)])

    def test_a_changed_result_changes_no_later_one(self):
        combination_redexes(("app", "I", 0)).clear()
        self.assertEqual(combination_redexes(("app", "I", 0)), [""])


class Step(unittest.TestCase):
    def test_examples(self):
        for text, place, wanted in (
            ("I x", "", "x"), ("K x y", "", "x"), ("S x y z", "", "x z (y z)"), ("I x y", "f", "x y"), ("K x y z", "f", "x z"),
            ("S x y z K", "f", "x z (y z) K"), ("I (I x)", "a", "I x"), ("I (I x)", "", "I x"), ("S (I x) y z", "ffa", "S x y z"),
            ("S (K x) I (K y z)", "", "K x (K y z) (I (K y z))"), ("x (K y z) z", "fa", "x y z"),
        ):
            with self.subTest(text=text, place=place):
                self.assertEqual(combination_step(combination(text), place), combination(wanted))

    def test_all_small_and_some_larger_combinations(self):
        for tree in SMALL + LARGER:
            found = redexes_of(tree)
            for place in places_of(tree) + ["b", "x", "faf" * 4]:
                if place in found:
                    self.assertEqual(combination_step(flat(tree), place), flat(stepped(tree, place)))
                else:
                    self.assertRaises(NoRedex, combination_step, flat(tree), place)

    def test_no_redex(self):
        value = combination("K (I x) (S y z)")
        for place in ("f", "a", "faa", "faf", "ff", "b", "fb", "x", " ", "fa ", "F", "fafa", "aaaa", "af"):
            self.assertRaises(NoRedex, combination_step, value, place)
        for value in (("I",), ("S",), (5,)):
            for place in ("", "f", "a", "b"):
                self.assertRaises(NoRedex, combination_step, value, place)

    def test_growth_to_1000_nodes_and_beyond(self):
        for size in (491, 493, 495, 497):
            # S a b c with a and b of one node: 6 + c nodes lead to 5 + 2 c.
            value = ("app", "app", "app", "S", 1, 2) + helper.function_chain(size)
            self.assertEqual(len(helper.with_little_stack(combination_step, value, "")), 2 * size + 5)
        for size in (499, 501, 993):
            value = ("app", "app", "app", "S", 1, 2) + helper.argument_chain(size)
            self.assertIs(is_combination(value), True)
            self.assertRaises(TooLarge, combination_step, value, "")
            self.assertRaises(NoRedex, combination_step, value, "f")

    def test_a_step_is_a_road_of_its_term(self):
        for tree in SMALL + LARGER:
            for place in redexes_of(tree):
                word = flat(helper.part_at(tree, place))
                word = next(node for node in word if node != "app")
                road = {"I": [place], "K": [place + "f", place], "S": [place + "ff", place + "f", place]}[word]
                self.assertEqual(follow(term_of(flat(tree)), road), term_of(combination_step(flat(tree), place)))

    def test_combinations_nested_deep(self):
        value = helper.argument_chain(999, "I")
        self.assertEqual(helper.with_little_stack(combination_step, value, "a" * 498), helper.argument_chain(997, "I"))
        value = helper.function_chain(999, "K")
        self.assertEqual(helper.with_little_stack(combination_step, value, "f" * 497), helper.function_chain(995, "K"))


class Normal(unittest.TestCase):
    def test_combinations_that_are_normal_already(self):
        for value in (("S",), (3,), ("app", "K", 0), ("app", "app", "S", 0, 1), helper.argument_chain(999, "K"), helper.function_chain(999, 0)):
            for steps in (0, 5, 20000):
                self.assertEqual(helper.with_little_stack(combination_normal, value, steps), (value, 0))

    def test_exactly_as_many_steps_as_needed(self):
        for text, wanted, steps in (
            ("I x", "x", 1), ("S K K x", "x", 2), ("K x (S I I (S I I))", "x", 1), ("S I I x", "x x", 3), ("x (I y) (K z y)", "x y z", 2),
            ("I I I I x", "x", 4), ("I K x y", "x", 2), ("K K x y z", "y", 2), ("I (K x) y", "x", 2), ("I S K K x", "x", 3),
            ("K S x y z x", "y x (z x)", 2), ("x (K I y z)", "x z", 2), ("S (K S) K", "S (K S) K", 0),
        ):
            with self.subTest(text=text):
                for given in (steps, steps + 1, 20000):
                    self.assertEqual(combination_normal(combination(text), given), (combination(wanted), steps))
                for given in range(steps):
                    self.assertRaises(OutOfSteps, combination_normal, combination(text), given)

    def test_it_steps_at_the_first_redex(self):
        for tree in SMALL + LARGER:
            start, steps = tree, 0
            while redexes_of(tree) and steps < 12:
                tree = stepped(tree, redexes_of(tree)[0])
                steps += 1
            if not redexes_of(tree):
                self.assertEqual(combination_normal(flat(start), steps), (flat(tree), steps))
            if steps > 0:
                self.assertRaises(OutOfSteps, combination_normal, flat(start), steps - 1)

    def test_out_of_steps_and_too_large(self):
        for steps in (0, 1, 50, 20000):
            self.assertRaises(OutOfSteps, combination_normal, LOOP, steps)
        grown = ("app", "app", "app", "S", 1, 2) + helper.function_chain(499)
        self.assertRaises(OutOfSteps, combination_normal, grown, 0)
        self.assertRaises(TooLarge, combination_normal, grown, 1)
        later = ("app", "app", 7, "app", "I", 0) + grown
        self.assertRaises(OutOfSteps, combination_normal, later, 1)
        self.assertRaises(TooLarge, combination_normal, later, 2)
        # S S S (S S S) (S S S) grows without end.
        source = combination("S S S (S S S) (S S S)")
        tree, steps = written("S S S (S S S) (S S S)"), 0
        while len(flat(tree)) <= 1000:
            tree, steps = stepped(tree, redexes_of(tree)[0]), steps + 1
        self.assertRaises(OutOfSteps, combination_normal, source, steps - 1)
        self.assertRaises(TooLarge, combination_normal, source, steps)
        self.assertRaises(TooLarge, combination_normal, source, 20000)

    def test_it_agrees_with_the_term(self):
        source = random.Random(113)
        checked = 0
        for _ in range(300):
            tree = source.choice(SMALL + LARGER)
            try:
                found, _ = combination_normal(flat(tree), 100)
                self.assertEqual(normal(term_of(found), 500)[0], normal(term_of(flat(tree)), 500)[0])
                checked += 1
            except LyditeError:
                pass
        self.assertGreater(checked, 200)

    def test_combinations_nested_deep(self):
        value = helper.argument_chain(999, "I")
        self.assertEqual(helper.with_little_stack(combination_normal, value, 499), (("I",), 499))
        self.assertRaises(OutOfSteps, combination_normal, value, 498)
        value = helper.function_chain(999, "I")
        self.assertEqual(helper.with_little_stack(combination_normal, value, 499), (("I",), 499))
        value = ("app", "K") * 100 + helper.argument_chain(701, "I")
        self.assertEqual(helper.with_little_stack(combination_normal, value, 350), (("app", "K") * 100 + ("I",), 350))

    def test_no_answer_depends_on_earlier_calls(self):
        value = combination("S K K x")
        self.assertRaises(OutOfSteps, combination_normal, value, 1)
        self.assertEqual(combination_normal(value, 2), ((0,), 2))
        self.assertRaises(NoRedex, combination_step, value, "f")
        self.assertEqual(combination_normal(value, 2), ((0,), 2))


if __name__ == "__main__":
    unittest.main()
