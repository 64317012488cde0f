import itertools
import unittest

from lydite.errors import NoPlace, TooLarge
from lydite.places import comes_before, part, places, replace
from lydite.terms import is_term
from tests import helper

SMALL = helper.trees_up_to(5, (0, 1))
MIXED = ("lam", "app", "app", 0, "lam", 1, "app", 2, 3)
MIXED_PLACES = ["", "b", "bf", "bff", "bfa", "bfab", "ba", "baf", "baa"]

# Chains of places for the three ways in which a term can be nested.
DEEP = (
    (helper.lam_chain(1000), "b" * 999),
    (helper.function_chain(999), "f" * 499),
    (helper.argument_chain(999), "a" * 499),
    (("lam", "app", 0) * 333 + (0,), "ba" * 333),
)


class Places(unittest.TestCase):
    def test_examples(self):
        for term, wanted in (
            ((0,), [""]), (("lam", 0), ["", "b"]), (("app", 0, 1), ["", "f", "a"]),
            (("app", "lam", 0, "lam", 1), ["", "f", "fb", "a", "ab"]),
            (MIXED, MIXED_PLACES),
        ):
            self.assertEqual(places(term), wanted)

    def test_all_small_terms_in_the_order_of_the_tuple(self):
        for tree in SMALL:
            wanted = [place for place, _ in helper.parts(tree)]
            self.assertEqual(places(helper.flat(tree)), wanted)

    def test_one_place_for_each_node(self):
        for term in helper.long_terms(1000):
            found = helper.with_little_stack(places, term)
            self.assertEqual(len(found), 1000)
            self.assertEqual(len(set(found)), 1000)

    def test_terms_nested_deep(self):
        for term, deepest in DEEP:
            found = helper.with_little_stack(places, term)
            self.assertEqual(len(found), len(term))
            self.assertIn(deepest, found)
            self.assertEqual(max(map(len, found)), len(deepest))
        self.assertEqual(places(helper.lam_chain(1000)), ["b" * n for n in range(1000)])

    def test_a_changed_result_changes_no_later_one(self):
        found = places(MIXED)
        found.clear()
        self.assertEqual(places(MIXED), MIXED_PLACES)
        self.assertIsNot(places(MIXED), places(MIXED))


class Part(unittest.TestCase):
    def test_examples(self):
        for place, wanted in zip(MIXED_PLACES, (
            MIXED, MIXED[1:], ("app", 0, "lam", 1), (0,), ("lam", 1), (1,),
            ("app", 2, 3), (2,), (3,),
        )):
            self.assertEqual(part(MIXED, place), wanted)

    def test_all_parts_of_small_terms(self):
        for tree in SMALL:
            term = helper.flat(tree)
            for place, inner in helper.parts(tree):
                self.assertEqual(part(term, place), helper.flat(inner))

    def test_all_strings_that_are_no_places_of_small_terms(self):
        strings = ["".join(row) for n in range(5) for row in itertools.product("bfa", repeat=n)]
        for tree in SMALL:
            term = helper.flat(tree)
            known = {place for place, _ in helper.parts(tree)}
            for text in strings:
                if text not in known:
                    self.assertRaises(NoPlace, part, term, text)
                    self.assertRaises(NoPlace, replace, term, text, (0,))

    def test_a_letter_more_or_less_or_another_one(self):
        for place in ("bffb", "bfff", "bfaba", "baaa", "bab", "f", "a", "bb", "bfb"):
            self.assertRaises(NoPlace, part, MIXED, place)
        self.assertEqual(part(MIXED, "bfa"), ("lam", 1))
        self.assertRaises(NoPlace, part, MIXED, "fa")
        self.assertRaises(NoPlace, part, (0,), "b")

    def test_strings_of_other_letters(self):
        for place in ("x", " ", "b ", " b", "B", "bF", "bx", "0", "fa", "bfa?", "b\n", "lam", "bfabx"):
            self.assertRaises(NoPlace, part, MIXED, place)
            self.assertRaises(NoPlace, replace, MIXED, place, (0,))

    def test_terms_nested_deep(self):
        for term, deepest in DEEP:
            self.assertEqual(helper.with_little_stack(part, term, deepest), (0,))
            self.assertEqual(part(term, ""), term)
            for letter in "bfax":
                self.assertRaises(NoPlace, part, term, deepest + letter)
                self.assertRaises(NoPlace, part, term, deepest[:-1] + "x" + letter)
        chain = helper.lam_chain(1000)
        for depth in (0, 1, 500, 998, 999):
            self.assertEqual(part(chain, "b" * depth), chain[depth:])

    def test_terms_somewhat_beyond_the_limits(self):
        self.assertEqual(part(helper.lam_chain(1003), "bbb"), helper.lam_chain(1000))
        self.assertEqual(part(("app", 1000001, 0), "a"), (0,))
        self.assertRaises(NoPlace, part, helper.lam_chain(1003), "a")
        self.assertRaises(TooLarge, part, helper.lam_chain(1003), "bb")
        self.assertRaises(TooLarge, part, ("app", 1000001, 0), "f")


class Replace(unittest.TestCase):
    def test_examples(self):
        for place, wanted in (
            ("", ("lam", 7)),
            ("b", ("lam", "lam", 7)),
            ("bf", ("lam", "app", "lam", 7, "app", 2, 3)),
            ("bfab", ("lam", "app", "app", 0, "lam", "lam", 7, "app", 2, 3)),
            ("baa", ("lam", "app", "app", 0, "lam", 1, "app", 2, "lam", 7)),
        ):
            self.assertEqual(replace(MIXED, place, ("lam", 7)), wanted)

    def test_no_variable_is_changed(self):
        self.assertEqual(replace(("lam", "lam", 0), "bb", (2,)), ("lam", "lam", 2))
        self.assertEqual(replace(("app", 5, "lam", 6), "f", (0,)), ("app", 0, "lam", 6))

    def test_all_places_of_small_terms(self):
        for tree in SMALL:
            term = helper.flat(tree)
            for place, inner in helper.parts(tree):
                self.assertEqual(replace(term, place, helper.flat(inner)), term)
                for value in (9, ("lam", 3), ("app", 4, ("lam", 0))):
                    wanted = helper.flat(helper.with_part(tree, place, value))
                    self.assertEqual(replace(term, place, helper.flat(value)), wanted)

    def test_long_chains(self):
        for term, deepest in DEEP:
            result = helper.with_little_stack(replace, term, deepest, (3,))
            self.assertEqual(len(result), len(term))
            self.assertEqual(part(result, deepest), (3,))
            self.assertEqual(replace(result, deepest, (0,)), term)
            cut = replace(term, deepest[:20], (3,))
            self.assertEqual(part(cut, deepest[:20]), (3,))
            self.assertEqual(replace(cut, deepest[:20], part(term, deepest[:20])), term)

    def test_1000_and_1001_nodes(self):
        for depth in (0, 1, 500, 998):
            chain = helper.lam_chain(999)
            for value in helper.long_terms(1000 - depth):
                result = replace(chain, "b" * depth, value)
                self.assertEqual(result, ("lam",) * depth + value)
                self.assertIs(is_term(result), True)
            for value in helper.long_terms(1001 - depth):
                self.assertRaises(TooLarge, replace, chain, "b" * depth, value)
        pair = ("app",) + helper.lam_chain(499) + helper.lam_chain(499)
        for place in "fa":
            self.assertEqual(len(replace(pair, place, helper.lam_chain(500))), 1000)
            self.assertRaises(TooLarge, replace, pair, place, helper.lam_chain(501))

    def test_greatest_variable(self):
        self.assertEqual(replace(("lam", 0), "b", (1000000,)), ("lam", 1000000))
        self.assertRaises(TooLarge, replace, ("lam", 0), "b", (1000001,))

    def test_no_place_comes_before_too_large(self):
        for place in ("a", "b" * 1000, "b" * 999 + "f"):
            self.assertRaises(NoPlace, replace, helper.lam_chain(1000), place, helper.lam_chain(1000))


class ComesBefore(unittest.TestCase):
    def test_examples(self):
        for first, second in (
            ("", "b"), ("", "f"), ("", "a"), ("f", "a"), ("fb", "a"), ("faaa", "a"),
            ("f", "ab"), ("b", "bf"), ("bf", "ba"), ("bffff", "ba"), ("bab", "babb"),
        ):
            self.assertIs(comes_before(first, second), True)
            self.assertIs(comes_before(second, first), False)

    def test_no_place_comes_before_itself(self):
        for place in ("", "b", "f", "a", "bfab"):
            self.assertIs(comes_before(place, place), False)

    def test_all_pairs_of_places_of_small_terms(self):
        for tree in SMALL + [("lam", ("app", ("app", 0, ("lam", 1)), ("app", 2, ("lam", 3))))]:
            order = [place for place, _ in helper.parts(tree)]
            for i, first in enumerate(order):
                for j, second in enumerate(order):
                    self.assertIs(comes_before(first, second), i < j)

    def test_terms_nested_deep(self):
        for term, deepest in DEEP:
            self.assertIs(helper.with_little_stack(comes_before, deepest[:-1], deepest), True)
            self.assertIs(helper.with_little_stack(comes_before, deepest, deepest[:-1]), False)
            self.assertIs(comes_before(deepest, deepest), False)
            order = places(term)
            picked = order[::97]
            for i, first in enumerate(picked):
                for j, second in enumerate(picked):
                    self.assertIs(comes_before(first, second), i < j)


if __name__ == "__main__":
    unittest.main()
