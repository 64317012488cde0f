import itertools
import random
import unittest

from lydite.data import named
from lydite.errors import NoKind, OutOfSteps, TooLarge
from lydite.kinds import has_kinds, is_instance, is_kind, joined, principal, renamed
from lydite.notation import parse
from lydite.order import normal
from lydite.places import part, places
from lydite.removal import needless, remove
from lydite.roads import redexes, step
from tests import helper

OMEGA = ("app", "lam", "app", 0, 0, "lam", "app", 0, 0)
SMALL = helper.trees_up_to(7, (0, 1, 2))[::2]
LARGER = helper.random_trees(101, 200, 25)


def term_of(text):
    return parse(text, ["x", "y", "z"])


def kind_trees(size, variables):
    """Return all kinds of a size as trees, nested tuples such as ("to", 0, 1)."""
    if size == 1:
        return list(variables)
    return [
        ("to", left, right) for n in range(1, size - 1)
        for left in kind_trees(n, variables) for right in kind_trees(size - 1 - n, variables)
    ]


def flat(tree):
    if isinstance(tree, int):
        return (tree,)
    return ("to",) + flat(tree[1]) + flat(tree[2])


KINDS = [flat(tree) for size in (1, 3, 5) for tree in kind_trees(size, (0, 1, 2))]


class Failed(Exception):
    pass


class Solver:
    """A second opinion, with kinds as trees and a replacement of variables."""

    def __init__(self):
        self.values = {}
        self.count = 1000

    def fresh(self):
        self.count += 1
        return self.count

    def full(self, kind):
        if isinstance(kind, int):
            return self.full(self.values[kind]) if kind in self.values else kind
        return ("to", self.full(kind[1]), self.full(kind[2]))

    def join(self, first, second):
        first, second = self.full(first), self.full(second)
        if first == second:
            return
        if isinstance(first, int) or isinstance(second, int):
            variable, value = (first, second) if isinstance(first, int) else (second, first)
            if variable in flat(value):
                raise Failed
            self.values[variable] = value
        else:
            self.join(first[1], second[1])
            self.join(first[2], second[2])

    def kind_of(self, tree, around):
        if isinstance(tree, int):
            return around[tree]
        if tree[0] == "lam":
            own = self.fresh()
            return ("to", own, self.kind_of(tree[1], [own] + around))
        function = self.kind_of(tree[1], around)
        argument = self.kind_of(tree[2], around)
        result = self.fresh()
        self.join(function, ("to", argument, result))
        return result


def kinding(tree):
    """Return the principal kinding of a tree by the second opinion, or None."""
    solver = Solver()
    free = [solver.fresh() for _ in range(max(helper.free_of(tree), default=-1) + 1)]
    try:
        found = free + [solver.kind_of(tree, free)]
    except Failed:
        return None
    return renumbered([flat(solver.full(kind)) for kind in found])


def renumbered(kinds):
    order = list(dict.fromkeys(node for kind in kinds for node in kind if node != "to"))
    return [tuple(node if node == "to" else order.index(node) for node in kind) for kind in kinds]


def replaced(kinds, values):
    """Return the instance with values in place of the variables."""
    found = []
    for kind in kinds:
        nodes = []
        for node in kind:
            nodes.extend([node] if node == "to" else values[node])
        found.append(tuple(nodes))
    return found


def right_chain(size, variable=0):
    """Return a kind of this odd size, nested in the right sides."""
    return ("to", variable) * ((size - 1) // 2) + (variable,)


def left_chain(size, variable=0):
    many = (size - 1) // 2
    return ("to",) * many + (variable,) * (many + 1)


def doubled(many, end):
    """Return two kinds that make each of many variables twice the one before.

    The kind with the number `many` would have 2 ** (many + 1) - 1 nodes.
    """
    first = ("to",) * many
    second = ("to",) * many
    for n in range(1, many + 1):
        first += (n,)
        second += ("to", n - 1, n - 1)
    return first + end[0], second + end[1]


def growing(many, end="lam 0"):
    """Return a term whose kind doubles many times."""
    nodes = tuple(int(node) if node.isdigit() else node for node in end.split())
    return ("app", "lam", "lam", "app", "app", 0, 1, 1) * many + nodes


class IsKind(unittest.TestCase):
    def test_kinds(self):
        for kind in ((0,), (1000000,), ("to", 0, 0), ("to", 5, "to", 3, 1000000), ("to", "to", 0, 1, "to", 2, 3)):
            self.assertIs(is_kind(kind), True)

    def test_exactly_the_small_kinds(self):
        known = {flat(tree) for size in (1, 3, 5) for tree in kind_trees(size, (0, 7))}
        for size in range(6):
            for value in itertools.product(("to", "lam", 0, 7), repeat=size):
                self.assertIs(is_kind(value), value in known)

    def test_values_that_are_nearly_one(self):
        wrong = (-1, 1000001, True, False, None, "", "To", "to ", "lam", "app", "S", "?", "0", (), (0,), [0], ["to"])
        for node in wrong:
            for value in ((node,), ("to", node, 0), ("to", 0, node), (node, 0, 0), ("to", 0, "to", 1, node)):
                self.assertIs(is_kind(value), False)
        for value in (
            (), ("to",), ("to", 0), (0, 0), ("to", 0, 0, 0), ("to", "to", 0, 0), (0, "to", 0, 0), [0], ["to", 0, 0], 0, -1,
            "to", "", None, True, False, [(0,)], ((0,),), ("to", (0,), (0,)), ("to", [0], 0),
        ):
            self.assertIs(is_kind(value), False)

    def test_chains_of_999_to_1003_nodes(self):
        for size in (997, 999, 1001, 1003):
            for kind in (right_chain(size), left_chain(size)):
                self.assertEqual(len(kind), size)
                self.assertIs(helper.with_little_stack(is_kind, kind), size <= 1000)
                self.assertIs(is_kind(kind[:-1]), False)
                self.assertIs(is_kind(kind + (0,)), False)
                self.assertIs(is_kind(list(kind)), False)
                self.assertIs(is_kind(kind[:-1] + (1000001,)), False)


class Renamed(unittest.TestCase):
    def test_examples(self):
        for kinds, wanted in (
            ([], []), ([(7,)], [(0,)]), ([(0,)], [(0,)]), ([("to", 5, "to", 3, 5)], [("to", 0, "to", 1, 0)]),
            ([(9,), (8,), ("to", 8, 9)], [(0,), (1,), ("to", 1, 0)]), ([("to", 1, 0), (1,)], [("to", 0, 1), (0,)]),
            ([(1000000,), (0,), (999999,)], [(0,), (1,), (2,)]), ([(3,), (3,)], [(0,), (0,)]),
        ):
            before = list(kinds)
            self.assertEqual(renamed(kinds), wanted)
            self.assertEqual(renamed(wanted), wanted)
            self.assertEqual(kinds, before)
            self.assertIsNot(renamed(kinds), kinds)

    def test_lists_of_small_kinds(self):
        for kinds in itertools.product(KINDS[::4], KINDS[::7]):
            self.assertEqual(renamed(list(kinds)), renumbered(kinds))

    def test_long_kinds(self):
        for kind in (right_chain(999, 5), left_chain(999, 5)):
            self.assertEqual(helper.with_little_stack(renamed, [kind]), [tuple("to" if n == "to" else 0 for n in kind)])
        self.assertEqual(renamed([(n,) for n in range(200, 0, -1)]), [(n,) for n in range(200)])


class IsInstance(unittest.TestCase):
    def test_examples(self):
        for general, special, wanted in (
            ([], [], True), ([(0,)], [(5,)], True), ([(0,)], [("to", 1, 2)], True), ([("to", 0, 1)], [(0,)], False),
            ([("to", 0, 0)], [("to", 1, 1)], True), ([("to", 0, 0)], [("to", 1, 2)], False),
            ([("to", 0, 1)], [("to", 2, 2)], True), ([("to", 0, 0)], [("to", "to", 1, 2, "to", 1, 2)], True),
            ([("to", 0, 0)], [("to", "to", 1, 2, "to", 2, 1)], False), ([(0,), (0,)], [(1,), (1,)], True),
            ([(0,), (0,)], [(1,), (2,)], False), ([(0,), (1,)], [(1,), (0,)], True), ([("to", 0, 1)], [("to", 0, "to", 0, 1)], True),
            ([(0,), ("to", 0, 1)], [("to", 5, 5), ("to", "to", 5, 5, 6)], True),
            ([(0,), ("to", 0, 1)], [("to", 5, 5), ("to", "to", 5, 6, 6)], False),
            ([(1000000,)], [(1000000,)], True), ([("to", "to", 0, 1, 0)], [("to", 0, 0)], False),
        ):
            with self.subTest(general=general, special=special):
                self.assertIs(is_instance(general, special), wanted)

    def test_other_lengths(self):
        for general, special in (([], [(0,)]), ([(0,)], []), ([(0,)], [(0,), (0,)]), ([(0,), (1,)], [(0,)]), ([(0,)] * 3, [(0,)] * 2)):
            self.assertIs(is_instance(general, special), False)

    def test_all_instances_by_replacement(self):
        values = [(0,), (1,), ("to", 0, 1), ("to", 1, 1)]
        for general in ([kind] for kind in KINDS[:30]):
            reached = [replaced(general, chosen) for chosen in itertools.product(values, repeat=3)]
            for special in reached:
                self.assertIs(is_instance(general, special), True)
            for special in KINDS[::3]:
                if len(special) <= 3:
                    wide = [(n,) for n in range(3)] + [("to", a, b) for a in range(3) for b in range(3)]
                    exists = any(replaced(general, chosen) == [special] for chosen in itertools.product(wide, repeat=3))
                    self.assertIs(is_instance(general, [special]), exists)

    def test_exchanged_arguments(self):
        for first, second in itertools.product(KINDS, KINDS):
            both = is_instance([first], [second]) and is_instance([second], [first])
            self.assertIs(both, renumbered([first]) == renumbered([second]))

    def test_long_kinds(self):
        for kind in (right_chain(999), left_chain(999)):
            self.assertIs(helper.with_little_stack(is_instance, [kind], [kind]), True)
            self.assertIs(is_instance([(3,)], [kind]), True)
            self.assertIs(is_instance([kind], [(3,)]), False)
            self.assertIs(is_instance([kind], [kind[:-1] + (1,)]), False)
            self.assertIs(is_instance([kind[:-1] + (1,)], [kind]), True)
            self.assertIs(helper.with_little_stack(is_instance, [kind] * 200, [kind] * 200), True)

    def test_arguments_stay_as_they_are(self):
        general, special = [(0,)], [("to", 0, 1)]
        is_instance(general, special)
        self.assertEqual((general, special), ([(0,)], [("to", 0, 1)]))


class Joined(unittest.TestCase):
    def check(self, first, second, wanted):
        self.assertEqual(helper.with_little_stack(joined, first, second), wanted)
        self.assertEqual(helper.with_little_stack(joined, second, first), wanted)

    def test_examples(self):
        for first, second, wanted in (
            ((0,), (0,), (0,)), ((5,), (5,), (0,)), ((0,), (1,), (0,)), ((0,), ("to", 1, 2), ("to", 0, 1)),
            ((7,), ("to", 5, 5), ("to", 0, 0)), (("to", 0, 1), ("to", 1, 0), ("to", 0, 0)), (("to", 0, 1), ("to", 2, 3), ("to", 0, 1)),
            (("to", 0, "to", 1, 2), ("to", "to", 1, 2, 3), ("to", "to", 0, 1, "to", 0, 1)),
            (("to", 0, 0), ("to", "to", 1, 2, 3), ("to", "to", 0, 1, "to", 0, 1)),
            (("to", "to", 0, 1, 2), ("to", 2, "to", 3, 3), ("to", "to", 0, 0, "to", 0, 0)),
            ((1000000,), ("to", 0, 1000000 - 1), ("to", 0, 1)),
        ):
            with self.subTest(first=first, second=second):
                self.check(first, second, wanted)

    def test_none(self):
        for first, second in (
            ((0,), ("to", 0, 1)), ((0,), ("to", 1, 0)), ((0,), ("to", 0, 0)), (("to", 0, 1), ("to", "to", 0, 2, 3)),
            (("to", 0, 1), ("to", 1, "to", 0, 0)), (("to", 0, "to", 1, 0), ("to", "to", 1, 1, "to", 0, 1)),
            (("to", 0, 0), ("to", "to", 1, 2, 1)), (("to", 0, "to", 1, 2), ("to", "to", 1, 1, "to", "to", 2, 2, 0)),
        ):
            with self.subTest(first=first, second=second):
                self.assertRaises(NoKind, joined, first, second)
                self.assertRaises(NoKind, joined, second, first)

    def test_all_pairs_of_small_kinds(self):
        trees = [tree for size in (1, 3, 5) for tree in kind_trees(size, (0, 1, 2))]
        answers = []
        for first, second in itertools.product(trees[::2], trees[::3]):
            solver = Solver()
            try:
                solver.join(first, second)
            except Failed:
                self.assertRaises(NoKind, joined, flat(first), flat(second))
                answers.append(None)
            else:
                answers.append(renumbered([flat(solver.full(first))])[0])
                self.assertEqual(joined(flat(first), flat(second)), answers[-1])
        self.assertGreater(answers.count(None), 300)

    def test_it_is_an_instance_of_both(self):
        for first, second in itertools.product(KINDS[::2], KINDS[::5]):
            try:
                found = joined(first, second)
            except NoKind:
                continue
            self.assertIs(is_instance([first], [found]) and is_instance([second], [found]), True)

    def test_results_of_999_and_1001_nodes(self):
        for size in (497, 499, 501):
            first = ("to",) + right_chain(size, 0) + (1,)
            second = ("to", 2) + left_chain(998 - size, 3)
            self.check(first, second, renumbered([("to",) + right_chain(size, 0) + left_chain(998 - size, 3)])[0])
            longer = ("to", 2) + left_chain(1000 - size, 3)
            self.assertRaises(TooLarge, joined, first, longer)
            self.assertRaises(TooLarge, joined, longer, first)
        for kind in (right_chain(999), left_chain(999)):
            self.check(kind, kind, kind)
            self.check(kind, (5,), kind)
            self.assertRaises(NoKind, joined, kind, (0,))
            self.assertRaises(TooLarge, joined, ("to", 1, 1), ("to",) + kind + (2,))
        # The same part twice: 2 * 499 + 1 and 2 * 501 + 1 nodes.
        self.check(("to", 0, 0), ("to", 1) + right_chain(499, 2), ("to",) + right_chain(499) * 2)
        self.assertRaises(TooLarge, joined, ("to", 0, 0), ("to", 1) + right_chain(501, 2))

    def test_kinds_on_the_way_that_would_be_far_larger(self):
        # The kind of the last variable has 2 ** (n + 1) - 1 nodes.
        for many in (1, 2, 3, 5, 6):
            first, second = doubled(many, ((100,), (100,)))
            found = joined(first, second)
            self.assertEqual(len(found), many + sum(2 ** (n + 1) - 1 for n in range(1, many + 1)) + 1)
        for many in (9, 20, 100, 240):
            first, second = doubled(many, ((100000,), (100000,)))
            self.assertRaises(TooLarge, helper.with_little_stack, joined, first, second)
            # NoKind comes first: the last variable contains the first one.
            first, second = doubled(many, ((many,), (0,)))
            self.assertRaises(NoKind, helper.with_little_stack, joined, first, second)
            first, second = doubled(many, ((many,), ("to", many, 100000)))
            self.assertRaises(NoKind, helper.with_little_stack, joined, second, first)

    def test_two_large_kinds_that_are_the_same(self):
        # Both sides double, each from its own variable on; then they are made the same.
        many = 80
        first, second = doubled(many, ((0,), (500,)))
        other = tuple(node + 500 if isinstance(node, int) else node for node in first[:-1]) + (many,)
        another = tuple(node + 500 if isinstance(node, int) else node for node in second[:-1]) + (500 + many,)
        self.assertRaises(TooLarge, joined, ("to",) + first + other, ("to",) + second + another)


class Principal(unittest.TestCase):
    def test_examples(self):
        for text, wanted in (
            ("\\a. a", [("to", 0, 0)]), ("\\a b. a", [("to", 0, "to", 1, 0)]), ("x", [(0,), (0,)]), ("y", [(0,), (1,), (1,)]),
            ("\\a b c. a c (b c)", [("to", "to", 0, "to", 1, 2, "to", "to", 0, 1, "to", 0, 2)]),
            ("x y", [("to", 0, 1), (0,), (1,)]), ("y x", [(0,), ("to", 0, 1), (1,)]), ("\\a. x", [(0,), ("to", 1, 0)]),
            ("\\a. z", [(0,), (1,), (2,), ("to", 3, 2)]), ("\\a b. a (a b)", [("to", "to", 0, 0, "to", 0, 0)]),
            ("(\\a. a) (\\a. a)", [("to", 0, 0)]), ("(\\a b. b) (\\a. x)", [(0,), ("to", 1, 1)]),
            ("x (\\a. a)", [("to", "to", 0, 0, 1), (1,)]), ("\\a. a (x a)", [("to", "to", 0, 1, 0), ("to", "to", 0, 1, 1)]), ("x y (x z)", None),
            ("\\a. a a", None), ("x x", None), ("x (y x) (y y)", None), ("(\\a. a a) (\\a. a)", None), ("\\a. a (\\b. a)", None),
            ("\\a. x (a y) (a z)", [("to", 0, "to", 0, 1), (2,), (2,), ("to", "to", 2, 0, 1)]),
        ):
            with self.subTest(text=text):
                if wanted is None:
                    self.assertRaises(NoKind, principal, term_of(text))
                else:
                    self.assertEqual(principal(term_of(text)), wanted)

    def test_all_small_and_some_larger_terms(self):
        answers = []
        for tree in SMALL + LARGER:
            answers.append(kinding(tree))
            if answers[-1] is None:
                self.assertRaises(NoKind, principal, helper.flat(tree))
            elif sum(map(len, answers[-1])) <= 1000:
                self.assertEqual(principal(helper.flat(tree)), answers[-1])
        self.assertGreater(answers.count(None), 300)
        self.assertGreater(len(answers) - answers.count(None), 300)

    def test_terms_of_the_table(self):
        self.assertEqual(principal(named("succ")), [kind for kind in renumbered([
            ("to", "to", "to", 0, 1, "to", 2, 0, "to", "to", 0, 1, "to", 2, 1)])])
        for name in ("fix", "and", "or"):
            self.assertRaises(NoKind, principal, named(name))
        self.assertRaises(NoKind, principal, OMEGA)

    def test_free_variables_of_200_and_201(self):
        found = principal((200,))
        self.assertEqual(found, [(n,) for n in range(201)] + [(200,)])
        self.assertEqual(principal(("lam", 201)), [(n,) for n in range(201)] + [("to", 201, 200)])
        self.assertRaises(TooLarge, principal, (201,))
        self.assertRaises(TooLarge, principal, ("lam", 202))
        self.assertRaises(TooLarge, principal, (1000000,))
        # TooLarge for a free variable comes before NoKind.
        self.assertRaises(TooLarge, principal, ("app", 201, 201))
        self.assertRaises(TooLarge, principal, ("app", 201) + OMEGA)
        self.assertRaises(NoKind, principal, ("app", 200, 200))
        self.assertRaises(NoKind, principal, ("app", 200) + OMEGA)

    def test_results_of_1000_and_1001_nodes(self):
        self.assertEqual(sum(map(len, principal(helper.lam_chain(500)))), 999)
        self.assertRaises(TooLarge, helper.with_little_stack, principal, helper.lam_chain(501))
        # 499 abstractions around a free variable: its own kind, and 999 nodes.
        found = helper.with_little_stack(principal, helper.lam_chain(500, 499))
        self.assertEqual(list(map(len, found)), [1, 999])
        self.assertRaises(TooLarge, principal, helper.lam_chain(500, 500))
        self.assertEqual(list(map(len, principal(helper.lam_chain(499, 499)))), [1, 1, 997])
        self.assertEqual(found, renumbered([(0,), tuple(n for k in range(1, 500) for n in ("to", k)) + (0,)]))

    def test_terms_nested_deep(self):
        self.assertRaises(NoKind, helper.with_little_stack, principal, helper.function_chain(999))
        self.assertRaises(NoKind, helper.with_little_stack, principal, ("lam",) + helper.argument_chain(999))
        term = ("app", 1) * 499 + (0,)
        self.assertEqual(helper.with_little_stack(principal, term), [(0,), ("to", 0, 0), (0,)])
        term = ("app", "lam", 0) * 333 + (0,)
        self.assertEqual(helper.with_little_stack(principal, term), [(0,), (0,)])
        term = ("app",) * 300 + ("lam", 0) * 300 + (0,)
        self.assertEqual(principal(term), [(0,), (0,)])

    def test_kinds_that_grow_very_large(self):
        for many in (1, 2, 3, 4, 5, 6):
            # Each pair has the kind "to" "to" k "to" k r r, and so 2 |k| + 5 nodes.
            wanted = (3 + 5) * 2 ** many - 5
            self.assertEqual(sum(map(len, principal(growing(many)))), wanted)
        for many in (7, 8, 20, 120):
            self.assertRaises(TooLarge, helper.with_little_stack, principal, growing(many))
        # NoKind, however large kinds on the way would be.
        for many in (7, 50, 120):
            self.assertRaises(NoKind, helper.with_little_stack, principal, growing(many, "lam app 0 0"))
            self.assertRaises(NoKind, principal, ("app", "lam", "app", 0, 0) + growing(many))
        # Large kinds that go away do not count.
        for many in (7, 50, 120):
            self.assertEqual(helper.with_little_stack(principal, ("app", "lam", "lam", 0) + growing(many)), [("to", 0, 0)])
            self.assertEqual(principal(("app", "lam", 1) + growing(many)), [(0,), (0,)])

    def test_steps_removals_and_parts_keep_kinds(self):
        followed = 0
        for tree in SMALL[::3] + LARGER:
            term = helper.flat(tree)
            try:
                kinds = principal(term)
            except (NoKind, TooLarge):
                continue
            after = [step(term, place) for place in redexes(term)]
            after += [remove(term, place) for place in needless(term)]
            for result in after:
                many = max(helper.free_of(helper.tree_of(result)), default=-1) + 1
                self.assertIs(has_kinds(result, kinds[:many] + kinds[-1:]), True)
                followed += 1
            for place in places(term):
                principal(part(term, place))
        self.assertGreater(followed, 200)

    def test_normal_returns_for_terms_with_a_kinding(self):
        reached = 0
        for tree in LARGER:
            try:
                principal(helper.flat(tree))
            except NoKind:
                continue
            try:
                normal(helper.flat(tree), 20000)
                reached += 1
            except TooLarge:
                pass
            except OutOfSteps:
                self.fail("a term with a kinding has a normal term")
        self.assertGreater(reached, 50)

    def test_a_changed_result_changes_no_later_one(self):
        principal(("lam", 0)).clear()
        self.assertEqual(principal(("lam", 0)), [("to", 0, 0)])


class HasKinds(unittest.TestCase):
    def test_examples(self):
        for text, kinds, wanted in (
            ("\\a. a", [("to", 0, 0)], True), ("\\a. a", [("to", 5, 5)], True), ("\\a. a", [("to", 0, 1)], False),
            ("\\a. a", [(0,)], False), ("\\a. a", [("to", "to", 0, 1, "to", 0, 1)], True),
            ("\\a. a", [("to", "to", 0, 1, "to", 1, 0)], False), ("x", [(0,), (0,)], True), ("x", [(0,), (1,)], False),
            ("x", [("to", 0, 1), ("to", 0, 1)], True), ("x y", [("to", 0, 1), (0,), (1,)], True),
            ("x y", [("to", 3, 3), (3,), (3,)], True), ("x y", [("to", 0, 1), (1,), (0,)], False),
            ("x y", [("to", "to", 2, 2, 1), ("to", 2, 2), (1,)], True), ("x y", [(0,), ("to", 0, 1), (1,)], False),
            ("y", [(7,), (3,), (3,)], True), ("y", [("to", 9, 9), (3,), (3,)], True), ("y", [(3,), (7,), (3,)], False),
        ):
            with self.subTest(text=text, kinds=kinds):
                before = list(kinds)
                self.assertIs(has_kinds(term_of(text), kinds), wanted)
                self.assertEqual(kinds, before)

    def test_too_short_and_too_long(self):
        for text, kinds in (("\\a. a", [("to", 0, 0)]), ("x y", [("to", 0, 1), (0,), (1,)]), ("y", [(0,), (1,), (1,)])):
            term = term_of(text)
            self.assertIs(has_kinds(term, kinds), True)
            for wrong in ([], kinds[1:], kinds[:-1], kinds + kinds[-1:], kinds + [(5,)], [(5,)] + kinds):
                self.assertIs(has_kinds(term, wrong), False)

    def test_terms_without_a_kinding(self):
        for text in ("\\a. a a", "x x", "(\\a. a a) (\\a. a)", "(\\a b. b) (\\a. a a)"):
            term = term_of(text)
            for kind in KINDS:
                self.assertIs(has_kinds(term, [kind]), False)
                self.assertIs(has_kinds(term, [kind, kind]), False)

    def test_instances_and_lists_with_one_kind_exchanged(self):
        source = random.Random(102)
        exchanged = 0
        for tree in SMALL[::5] + LARGER:
            kinds = kinding(tree)
            if kinds is None or sum(map(len, kinds)) > 500:
                continue
            self.assertIs(has_kinds(helper.flat(tree), kinds), True)
            many = 1 + max(node for kind in kinds for node in kind if node != "to")
            values = [source.choice(KINDS) for _ in range(many)]
            special = replaced(kinds, values)
            self.assertIs(has_kinds(helper.flat(tree), special), True)
            for at in range(len(special)):
                wrong = special[:at] + [source.choice(KINDS)] + special[at + 1:]
                wanted = is_instance(kinds, wrong)
                exchanged += not wanted
                self.assertIs(has_kinds(helper.flat(tree), wrong), wanted)
        self.assertGreater(exchanged, 200)

    def test_all_small_terms_with_small_kinds(self):
        for tree in helper.trees_up_to(5, (0,))[::2]:
            kinds = kinding(tree)
            for found in itertools.product(KINDS[::3], repeat=1 + len(helper.free_of(tree))):
                found = list(found)
                wanted = kinds is not None and len(kinds) == len(found) and is_instance(kinds, found)
                self.assertIs(has_kinds(helper.flat(tree), found), wanted)

    def test_free_variables_of_200_and_more(self):
        kinds = [(n,) for n in range(201)]
        self.assertIs(has_kinds((200,), kinds + [(200,)]), True)
        self.assertIs(has_kinds((200,), kinds + [(199,)]), False)
        self.assertIs(has_kinds((200,), kinds), False)
        self.assertIs(has_kinds((1000000,), kinds), False)
        self.assertIs(has_kinds((201,), kinds + [(7,), (7,)]), True)

    def test_kinds_that_grow_very_large(self):
        for many in (6, 7, 50, 120):
            self.assertIs(has_kinds(("app", "lam", "lam", 0) + growing(many), [("to", 5, 5)]), True)
            self.assertIs(has_kinds(("app", "lam", "lam", 0) + growing(many), [("to", 5, 6)]), False)
            self.assertIs(has_kinds(("app", "lam", "lam", 0) + growing(many, "lam app 0 0"), [("to", 5, 5)]), False)
            self.assertIs(helper.with_little_stack(has_kinds, growing(many), [right_chain(999)]), False)
        found = principal(growing(6))
        self.assertIs(has_kinds(growing(6), found), True)
        self.assertIs(has_kinds(growing(6), [found[0][:-1] + (7,)]), False)

    def test_more_than_1000_nodes_together(self):
        term = ("app", "app", 2, "lam") + ("app",) * 240 + (1,) + (2,) * 240 + ("lam",) + ("app",) * 240 + (4,) + (2,) * 240
        kinds = [right_chain(481), (0,), ("to", "to", 1, 0, "to", "to", 2, 0, 3), right_chain(481), (3,)]
        self.assertIs(has_kinds(term, kinds), True)
        self.assertIs(has_kinds(term, kinds[:3] + [right_chain(479)] + kinds[4:]), False)
        term = ("lam",) * 499 + (500,)
        kinds = [right_chain(999, 3), (0,), ("to", 9) * 499 + (0,)]
        self.assertIs(has_kinds(term, kinds), True)
        self.assertRaises(TooLarge, principal, term)
        self.assertIs(has_kinds(term, [right_chain(999, 3), (1,), ("to", 9) * 499 + (0,)]), False)

    def test_no_answer_depends_on_earlier_calls(self):
        term = term_of("x y")
        kinds = [("to", 0, 1), (0,), (1,)]
        self.assertIs(has_kinds(term, kinds[::-1]), False)
        self.assertRaises(NoKind, principal, OMEGA)
        self.assertIs(has_kinds(term, kinds), True)
        self.assertEqual(principal(term), kinds)


if __name__ == "__main__":
    unittest.main()
