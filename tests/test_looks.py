import random
import unittest

from lydite.errors import AllEqual, BadCrowd, TooLarge
from lydite.heads import head, with_head
from lydite.looks import MOST_CROWD, are_alike, stretched, turns
from lydite.notation import parse
from lydite.removal import shrink
from lydite.terms import is_term
from tests import helper

SETTLED = helper.settled_trees(6)
NORMAL = [tree for tree in helper.trees_up_to(6, (0, 1)) if not helper.redexes_of(tree)]


def term_of(text):
    return parse(text, ["x", "y", "z"])


def terms_of(*texts):
    return [term_of(text) for text in texts]


def look_of(tree, count):
    """Return the head and the arguments of a tree stretched by the words of point 27."""
    own, arguments = 0, []
    while helper.is_lam(tree):
        tree, own = tree[1], own + 1
    while not isinstance(tree, int):
        tree, arguments = tree[1], [tree[2]] + arguments
    d = count - own
    found = [helper.lifted(argument, d) for argument in arguments]
    return helper.lifted(tree, d), found + list(range(d - 1, -1, -1))


class Stretched(unittest.TestCase):
    def test_examples(self):
        for text, count, wanted in (
            ("\\a. a", 1, (0, [])), ("\\a. a", 2, (1, [(0,)])), ("\\a. a", 4, (3, [(2,), (1,), (0,)])),
            ("x", 0, (0, [])), ("z", 2, (4, [(1,), (0,)])), ("x y", 1, (1, [(2,), (0,)])),
            ("\\a. a (\\b. b a x)", 2, (1, [("lam", "app", "app", 0, 2, 3), (0,)])),
            ("\\a b. b (a b) x", 3, (1, [("app", 2, 1), (3,), (0,)])),
        ):
            with self.subTest(text=text, count=count):
                self.assertEqual(stretched(term_of(text), count), wanted)

    def test_all_small_normal_terms(self):
        for tree in NORMAL:
            own = head(helper.flat(tree))[0]
            for count in (own, own + 1, own + 2, own + 5):
                variable, arguments = look_of(tree, count)
                wanted = (variable, [helper.flat(argument) for argument in arguments])
                self.assertEqual(stretched(helper.flat(tree), count), wanted)

    def test_removals_give_the_term_back(self):
        for tree in NORMAL:
            own = head(helper.flat(tree))[0]
            variable, arguments = stretched(helper.flat(tree), own + 3)
            whole = with_head(own + 3, variable, arguments)
            self.assertEqual(shrink(whole)[0], shrink(helper.flat(tree))[0])
            self.assertEqual(shrink(whole)[1], shrink(helper.flat(tree))[1] + 3)

    def test_up_to_1000_abstractions(self):
        variable, arguments = stretched((5,), 1000)
        self.assertEqual((variable, arguments), (1005, [(n,) for n in range(999, -1, -1)]))
        term = helper.lam_chain(1000, 998)
        self.assertEqual(helper.with_little_stack(stretched, term, 999), (998, []))
        self.assertEqual(helper.with_little_stack(stretched, term, 1000), (999, [(0,)]))
        for term in helper.long_terms(999):
            own, variable, arguments = head(term)
            found = helper.with_little_stack(stretched, term, 1000)
            self.assertEqual(found[0], variable + 1000 - own)
            self.assertEqual(len(found[1]), len(arguments) + 1000 - own)
            self.assertTrue(all(map(is_term, found[1])))

    def test_variables_that_become_too_great(self):
        self.assertRaises(TooLarge, stretched, (1000000,), 1)
        self.assertRaises(TooLarge, stretched, (999000,), 1001)
        self.assertRaises(TooLarge, stretched, ("app", 0, 1000000), 1)
        self.assertRaises(TooLarge, stretched, ("app", 0, "lam", 1000000), 1)
        self.assertRaises(TooLarge, stretched, ("lam", 1000000), 2)
        self.assertEqual(stretched((1000000,), 0), (1000000, []))
        self.assertEqual(stretched(("lam", 1000000), 1), (1000000, []))
        self.assertEqual(stretched((999000,), 1000)[0], 1000000)
        self.assertEqual(stretched(("app", 0, 999999), 1), (1, [(1000000,), (0,)]))

    def test_a_changed_result_changes_no_later_one(self):
        term = ("app", 0, 1)
        stretched(term, 0)[1].append((7,))
        self.assertEqual(stretched(term, 0), (0, [(1,)]))


class AreAlike(unittest.TestCase):
    def test_examples(self):
        for texts, wanted in (
            (["\\a. a"], True), (["x", "x"], True), (["x", "y"], False), (["x y", "x z"], True), (["x y", "x y z"], False),
            (["\\a. x", "\\a. a"], False), (["\\a b. a", "\\a b. b"], False), (["\\a. a", "\\a b. a b"], True),
            (["\\a. a", "\\a b. a (b b)"], True), (["\\a. a", "\\a b. a"], False), (["\\a. a", "\\a b. b"], False),
            (["\\a. a x", "\\a b. a b y"], True), (["\\a. a x", "\\a b. a b"], False), (["x", "\\a. x a", "\\a b. x b a"], True),
            (["x", "\\a. y a"], False), (["x", "x", "x", "y"], False), (["x (y y)", "x (\\a. a)", "x z"], True),
        ):
            with self.subTest(texts=texts):
                self.assertIs(are_alike(terms_of(*texts)), wanted)
                self.assertIs(are_alike(terms_of(*reversed(texts))), wanted)

    def test_all_pairs_of_small_normal_terms(self):
        answers = []
        for first in NORMAL[::3]:
            for second in NORMAL[::5]:
                count = max(head(helper.flat(first))[0], head(helper.flat(second))[0])
                mine, other = look_of(first, count), look_of(second, count)
                answers.append(mine[0] == other[0] and len(mine[1]) == len(other[1]))
                self.assertIs(are_alike([helper.flat(first), helper.flat(second)]), answers[-1])
        self.assertGreater(answers.count(True), 50)

    def test_far_variables(self):
        # A stretched variable would be too great, but nothing is returned but True or False.
        self.assertIs(are_alike([(1000000,), ("lam", "app", 1000000, 0)]), False)
        self.assertIs(are_alike([(999999,), ("lam", "app", 1000000, 0)]), True)
        self.assertIs(are_alike([(1000000,), (1000000,)]), True)
        self.assertIs(are_alike([(1000000,), ("lam", 0)]), False)
        self.assertIs(are_alike([("app", 0, 1000000), ("lam", "app", "app", 1, 5, 0)]), True)

    def test_terms_nested_deep(self):
        for size in (998, 999, 1000):
            for term in helper.long_terms(size):
                self.assertIs(helper.with_little_stack(are_alike, [term, term]), True)
        self.assertIs(are_alike([helper.lam_chain(1000, 999), (0,)]), False)
        deep = ("lam",) * 250 + ("app",) * 250 + (250,) + tuple(range(249, -1, -1))
        self.assertIs(are_alike([(0,), deep]), True)
        self.assertIs(are_alike([(0,), ("lam",) + deep]), False)

    def test_many_terms(self):
        terms = terms_of("x y") * 50
        self.assertIs(are_alike(terms), True)
        self.assertEqual(terms, terms_of("x y") * 50)
        self.assertIs(are_alike(terms + terms_of("x")), False)


class Turns(unittest.TestCase):
    def test_the_limit(self):
        self.assertEqual(MOST_CROWD, 12)

    def test_examples(self):
        for texts, wanted in (
            (["\\a b. a", "\\a b. b"], []), (["\\a. a", "\\a b. b"], []), (["\\a. a", "\\a b. a"], []),
            (["\\a. a a", "\\a. a (a a)"], [0]), (["\\a. a a", "\\a. a a a"], []),
            (["\\a b. a b b", "\\a b. a b a"], [1]), (["\\a b. a a a", "\\a b. a b a"], [0]),
            (["\\a b. a (b a) b b", "\\a b. a (b a) b a"], [2]),
            # other numbers of abstractions
            (["\\a. a", "\\a b. a (b b)"], [0]), (["\\a. a", "\\a b. a (\\c. b b)"], [0, 0]), (["\\a. a", "\\a b c. a b (c c)"], [1]),
            (["\\a. a", "\\a b. a (\\c. b (\\d. d))"], [0, 0]), (["\\a. a a", "\\a b. a a (b b)"], [1]),
            # deep inside
            (["\\a. a (a (a (\\b. b)))", "\\a. a (a (a (\\b c. c)))"], [0, 0, 0]),
            (["\\a. a a (a a (a (\\b. b) a))", "\\a. a a (a a (a (\\b c. c) a))"], [1, 1, 0]),
            # three terms: the first difference of any of them
            (["\\a b. a a b b", "\\a b. a a b a", "\\a b. a a a a"], [1]),
            (["\\a b. a a b b", "\\a b. a a b a", "\\a b. a a b (a a)"], [2]),
        ):
            with self.subTest(texts=texts):
                self.assertEqual(turns(terms_of(*texts)), wanted)

    def test_all_pairs_of_small_settled_terms(self):
        for first in SETTLED:
            for second in SETTLED:
                crowd = [helper.flat(first), helper.flat(second)]
                if first == second:
                    self.assertRaises(AllEqual, turns, crowd)
                else:
                    wanted = [spot.turn for spot in helper.spots([first, second])[:-1]]
                    self.assertEqual(turns(crowd), wanted)

    def test_larger_crowds(self):
        source = random.Random(91)
        longest = 0
        for _ in range(300):
            trees = helper.random_crowd(source, 28)
            crowd = [helper.flat(tree) for tree in trees]
            if len(crowd) > 1 and len(set(crowd)) > 1:
                before = list(crowd)
                wanted = [spot.turn for spot in helper.spots(trees)[:-1]]
                longest = max(longest, len(wanted))
                self.assertEqual(turns(crowd), wanted)
                self.assertEqual(crowd, before)
        self.assertGreater(longest, 2)

    def test_all_equal(self):
        for many in (2, 3, 12):
            self.assertRaises(AllEqual, turns, terms_of("\\a b. a") * many)
        self.assertEqual(turns(terms_of("\\a b. a") * 11 + terms_of("\\a b. b")), [])

    def test_bad_crowds(self):
        true, false = terms_of("\\a b. a", "\\a b. b")
        for crowd in (
            [], [true], [true] * 13, [true, false] * 6 + [true], [true, (0,)], [(0,), (0,)], [true, ("lam", 1)],
            terms_of("\\a. a", "(\\a. a) (\\a. a)"), terms_of("\\a. (\\b. b) a", "\\a b. b"),
            terms_of("\\a b. a b", "\\a. a"), terms_of("\\a. a", "\\a. a (\\b. a b)"), terms_of("\\a. a", "\\a b. b (\\c. a c)"),
            terms_of("\\a. a", "\\a. a x"), [true, false, ("lam", "app", 0, "lam", "lam", "app", 2, 0)],
            [("lam", "app", 0, "app", "lam", 0, 0), false],
        ):
            with self.subTest(crowd=crowd):
                self.assertRaises(BadCrowd, turns, crowd)
        # BadCrowd comes before AllEqual.
        self.assertRaises(BadCrowd, turns, [(3,), (3,)])
        self.assertRaises(BadCrowd, turns, terms_of("\\a b. a b") * 2)
        # A needless abstraction is one only if its variable does not occur in s.
        self.assertEqual(turns(terms_of("\\a. a a", "\\a. a (\\b. b b)")), [0])

    def test_terms_nested_deep(self):
        for many in (100, 331):
            crowd = [("lam", "app", 0) * many + end for end in (("lam", "lam", 0), ("lam", "lam", 1))]
            self.assertEqual(helper.with_little_stack(turns, crowd), [0] * many)
        crowd = [("lam", "lam") + ("app", 1) * 498 + end for end in ((0,), (1,))]
        self.assertEqual(helper.with_little_stack(turns, crowd), [0] * 498)
        crowd = [("lam", "lam") + ("app",) * 498 + (1,) * 497 + (last, 1) for last in (0, 1)]
        self.assertEqual(helper.with_little_stack(turns, crowd), [496])
        # The way goes on into variables that only stand in the looks.
        crowd = [("lam", "app", 0) * 200 + ("lam", 0), ("lam", "app", 0) * 200 + ("lam",) * 100 + ("app",) * 99 + (
            99,) + tuple(range(98, 0, -1)) + ("lam", "lam", 2)]
        self.assertEqual(turns(crowd), [0] * 200 + [98])

    def test_a_changed_result_changes_no_later_one(self):
        crowd = terms_of("\\a. a a", "\\a. a (a a)")
        turns(crowd).append(5)
        self.assertEqual(turns(crowd), [0])


if __name__ == "__main__":
    unittest.main()
