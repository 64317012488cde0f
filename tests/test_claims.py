import itertools
import random
import unittest

from lydite.apart import applied, choose, projection, tell
from lydite.claims import claim_text, is_claim, is_shown, read_claim
from lydite.combinators import combination_of
from lydite.data import named, number
from lydite.errors import BadClaim, BadCrowd, LyditeError, NoKind
from lydite.kinds import principal
from lydite.notation import parse
from lydite.order import first_steps, normal, standard
from lydite.roads import follow
from tests import helper

TRUE, FALSE, IDENTITY = ("lam", "lam", 1), ("lam", "lam", 0), ("lam", 0)
OMEGA = ("app", "lam", "app", 0, 0, "lam", "app", 0, 0)
GROWING = ("app",) + ("lam", "app", "app", 0, 0, 0) * 2
TERM = ("app", "lam", "app", 0, 0, "app", "lam", 0, 5)

# One claim of each word that is shown.
SHOWN = [
    ("leads", TERM, ("app", 5, 5), ["a", ""]),
    ("same", TERM, ("app", 5, "app", "lam", 0, 5), ["a", ""], ["a"]),
    ("normal", TERM, ("app", 5, 5), 3),
    ("never", OMEGA, 0, 1),
    ("standard", TERM, ["a", ""], ["", "f", "a"]),
    ("apart", TRUE, FALSE, tell(TRUE, FALSE), 5),
    ("each", choose([TRUE, FALSE, IDENTITY]), [TRUE, FALSE, IDENTITY], 30),
    ("kinds", ("app", 0, 1), [("to", 7, 7), (7,), (7,)]),
    ("principal", ("app", 0, 1), [("to", 0, 1), (0,), (1,)]),
    ("no kinds", ("lam", "app", 0, 0)),
    ("combined", ("lam", "app", 0, 0), ("app", "app", "S", "I", "I")),
]
WORDS = [claim[0] for claim in SHOWN]
TEXTS = [
    "leads;app lam app 0 0 app lam 0 5;app 5 5;2;a;",
    "same;app lam app 0 0 app lam 0 5;app 5 app lam 0 5;2;a;;1;a",
    "normal;app lam app 0 0 app lam 0 5;app 5 5;3",
    "never;app lam app 0 0 lam app 0 0;0;1",
    "standard;app lam app 0 0 app lam 0 5;2;a;;3;;f;a",
    "apart;lam lam 1;lam lam 0;4;lam 0;lam lam app 0 1;lam lam lam 1;lam lam lam 0;5",
    None,
    "kinds;app 0 1;3;to 7 7;7;7",
    "principal;app 0 1;3;to 0 1;0;1",
    "no kinds;lam app 0 0",
    "combined;lam app 0 0;app app S I I",
]


def term_of(text):
    return parse(text, ["x", "y", "z"])


def of_word(word):
    return SHOWN[WORDS.index(word)]


class IsClaim(unittest.TestCase):
    def check_none_is_a_claim(self, values):
        for value in values:
            with self.subTest(value=repr(value)[:80]):
                self.assertIs(is_claim(value), False)

    def test_each_word(self):
        self.assertEqual(len(set(WORDS)), 11)
        for claim in SHOWN:
            self.assertIs(is_claim(claim), True)

    def test_claims_that_are_not_shown_are_claims(self):
        for claim in (
            ("leads", (0,), (1,), []), ("same", (0,), (1,), ["b"], ["ffa", ""]), ("normal", OMEGA, (0,), 20000), ("never", (0,), 5, 5),
            ("never", (0,), 20000, 0), ("standard", (0,), ["a"], []), ("apart", (0,), (0,), [], 0), ("each", (0,), [], 0),
            ("each", (0,), [(0,)] * 13, 0), ("kinds", (0,), []), ("principal", (1000000,), [(1000000,)]), ("no kinds", (0,)),
            ("combined", (0,), ("S",)), ("leads", (0,), (1,), ["bfabfa" * 400]),
        ):
            self.assertIs(is_claim(claim), True)

    def test_values_that_are_no_tuple_with_a_word(self):
        self.check_none_is_a_claim([
            None, True, False, 0, 1, "leads", "", [], (), (0,), (None,), ("leads",), ((),), ([],), ("no kinds",),
            ["no kinds", (0,)], ("no kinds", [0]), (["no kinds"], (0,)), (("no kinds",), (0,)), (0, (0,)), (True, (0,)),
        ])
        self.check_none_is_a_claim([list(claim) for claim in SHOWN])

    def test_another_word(self):
        for claim in SHOWN:
            for word in ("Leads", "leads ", "", "lead", "no_kinds", "nokinds", "kind", "claim", "never ", None, 0):
                self.check_none_is_a_claim([(word,) + claim[1:]])
            for word in WORDS:
                other = (word,) + claim[1:]
                same_form = {"kinds", "principal"}
                self.assertIs(is_claim(other), word == claim[0] or {word, claim[0]} == same_form)

    def test_parts_left_out_put_in_twice_or_exchanged(self):
        for claim in SHOWN:
            for at in range(1, len(claim)):
                self.check_none_is_a_claim([claim[:at] + claim[at + 1:], claim[:at] + claim[at:at + 1] + claim[at:]])
            self.check_none_is_a_claim([claim + (0,), claim + ((0,),), claim + ([],), claim[:1], claim + claim])

    def test_parts_of_another_form(self):
        strange = [
            None, True, False, -1, 20001, 10 ** 30, "", "b", "x", (), [], (True,), ("lam",), ("lam", 0, 0), ("app", 0), (-1,), (1000001,),
            ("to", 0, 0), ("S",), ("lam", 0), 7, [(0,)], [("to", 0, 0)], [("lam", 0)], [("S",)], ["b"], ["x"], ["b", 0], [None], [True],
            [[]], [()], [(0,), (True,)], [("lam",)], ["f "], ["F"], ((0,),), ("b",), [("lam", 0), ("to", 0, 0)],
        ]
        fits = {
            "term": [("lam", 0)], "number": [7], "road": [[], ["b"]], "terms": [[], [(0,)], [("lam", 0)]],
            "kinds": [[], [(0,)], [("to", 0, 0)]], "combination": [("S",)],
        }
        forms = {
            "leads": "term term road", "same": "term term road road", "normal": "term term number", "never": "term number number",
            "standard": "term road road", "apart": "term term terms number", "each": "term terms number", "kinds": "term kinds",
            "principal": "term kinds", "no kinds": "term", "combined": "term combination",
        }
        for claim in SHOWN:
            for at, form in enumerate(forms[claim[0]].split(), 1):
                for value in strange:
                    wanted = value in fits[form] and not isinstance(value, bool)
                    with self.subTest(word=claim[0], at=at, value=value):
                        self.assertIs(is_claim(claim[:at] + (value,) + claim[at + 1:]), wanted)
                as_other = tuple(claim[at]) if isinstance(claim[at], list) else [claim[at]]
                self.check_none_is_a_claim([claim[:at] + (as_other,) + claim[at + 1:]])

    def test_numbers(self):
        for value, wanted in ((0, True), (1, True), (19999, True), (20000, True), (20001, False), (-1, False), (True, False), (False, False), ("5", False)):
            self.assertIs(is_claim(("normal", (0,), (0,), value)), wanted)
            self.assertIs(is_claim(("never", (0,), value, 3)), wanted)
            self.assertIs(is_claim(("never", (0,), 3, value)), wanted)
            self.assertIs(is_claim(("apart", (0,), (0,), [], value)), wanted)
            self.assertIs(is_claim(("each", (0,), [], value)), wanted)

    def test_lists_of_199_to_202_members(self):
        for many in (199, 200, 201, 202):
            wanted = many <= 200
            for claim in (
                ("leads", (0,), (0,), ["b"] * many), ("same", (0,), (0,), [""] * many, []), ("same", (0,), (0,), [], [""] * many),
                ("standard", (0,), ["a"] * many, []), ("standard", (0,), [], ["a"] * many), ("apart", (0,), (0,), [(0,)] * many, 0),
                ("each", (0,), [("lam", 0)] * many, 0), ("kinds", (0,), [("to", 0, 0)] * many), ("principal", (0,), [(0,)] * many),
            ):
                self.assertIs(is_claim(claim), wanted)

    def test_terms_kinds_and_combinations_of_998_to_1003_nodes(self):
        for size in (998, 999, 1000, 1001):
            for term in helper.long_terms(size):
                wanted = size <= 1000
                for claim in (
                    ("leads", term, (0,), []), ("leads", (0,), term, []), ("apart", (0,), (0,), [(0,), term], 0), ("no kinds", term),
                    ("each", (0,), [term], 0), ("combined", term, ("S",)),
                ):
                    self.assertIs(helper.with_little_stack(is_claim, claim), wanted)
        for size in (999, 1001):
            kind = ("to", 0) * (size // 2) + (0,)
            self.assertIs(helper.with_little_stack(is_claim, ("kinds", (0,), [kind])), size <= 1000)
            value = ("app", "S") * (size // 2) + ("I",)
            self.assertIs(helper.with_little_stack(is_claim, ("combined", (0,), value)), size <= 1000)

    def test_values_nested_deep(self):
        deep_tuple, deep_list = (), []
        for _ in range(5000):
            deep_tuple, deep_list = (deep_tuple,), [deep_list]
        for deep in (deep_tuple, deep_list):
            for claim in (deep, ("no kinds", deep), ("leads", (0,), (0,), deep), ("kinds", (0,), deep), ("normal", (0,), (0,), deep)):
                self.assertIs(helper.with_little_stack(is_claim, claim), False)


class IsShown(unittest.TestCase):
    def check(self, claim, wanted):
        with self.subTest(claim=repr(claim)[:100]):
            before = [list(part) if isinstance(part, list) else part for part in claim]
            self.assertIs(is_claim(claim), True)
            self.assertIs(helper.with_little_stack(is_shown, claim), wanted)
            self.assertEqual(list(claim), before)
            self.assertIs(is_shown(claim), wanted)

    def test_each_word(self):
        for claim in SHOWN:
            self.check(claim, True)

    def test_leads(self):
        for claim, wanted in (
            (("leads", (0,), (0,), []), True), (("leads", (0,), (1,), []), False), (("leads", TERM, TERM, []), True),
            (("leads", TERM, ("app", 5, 5), ["a"]), False), (("leads", TERM, ("app", 5, 5), ["", "f", "a"]), True),
            (("leads", TERM, ("app", 5, 5), ["a", "", ""]), False), (("leads", TERM, ("app", 5, 5), ["f"]), False),
            (("leads", TERM, ("app", 5, 6), ["a", ""]), False), (("leads", TERM, ("app", 5, 5), ["bb"]), False),
            (("leads", GROWING, GROWING, [""] * 143), False), (("leads", OMEGA, OMEGA, [""] * 200), True),
        ):
            self.check(claim, wanted)

    def test_same(self):
        for claim, wanted in (
            (("same", (0,), (0,), [], []), True), (("same", (0,), (1,), [], []), False), (("same", TERM, ("app", 5, 5), ["a", ""], []), True),
            (("same", ("app", 5, 5), TERM, [], ["a", ""]), True), (("same", ("app", 5, 5), TERM, ["a", ""], []), False),
            (("same", TERM, TERM, ["a", ""], ["", "f", "a"]), True), (("same", TERM, TERM, ["a", ""], ["", "f"]), False),
            (("same", TERM, TERM, ["f"], ["f"]), False), (("same", TERM, TERM, [], ["f"]), False), (("same", OMEGA, OMEGA, [""], ["", ""]), True),
        ):
            self.check(claim, wanted)

    def test_normal(self):
        for claim, wanted in (
            (("normal", TERM, ("app", 5, 5), 3), True), (("normal", TERM, ("app", 5, 5), 2), False), (("normal", TERM, ("app", 5, 5), 20000), True),
            (("normal", TERM, ("app", 5, 6), 3), False), (("normal", (7,), (7,), 0), True), (("normal", (7,), (8,), 0), False),
            (("normal", TERM, TERM, 3), False), (("normal", OMEGA, OMEGA, 500), False), (("normal", GROWING, GROWING, 500), False),
            (("normal", GROWING, (0,), 500), False),
        ):
            self.check(claim, wanted)

    def test_never(self):
        turning = term_of("(\\a. a a a) (\\a. a a a)")
        # Three steps on the way: (\a b. b (a a b)) is no loop, but this one comes back after two steps.
        two = term_of("(\\a. (\\b. b b) a) (\\a. (\\b. b b) a)")
        for claim, wanted in (
            (("never", OMEGA, 0, 1), True), (("never", OMEGA, 5, 200), True), (("never", OMEGA, 199, 200), True),
            (("never", OMEGA, 1, 1), False), (("never", OMEGA, 2, 1), False), (("never", OMEGA, 0, 201), False),
            (("never", OMEGA, 200, 201), False), (("never", OMEGA, 0, 0), False), (("never", OMEGA, 0, 20000), False),
            (("never", two, 0, 2), True), (("never", two, 0, 1), False), (("never", two, 1, 3), True), (("never", two, 0, 3), False),
            (("never", two, 0, 4), True), (("never", turning, 0, 1), False), (("never", GROWING, 0, 150), False),
            (("never", (0,), 0, 1), False), (("never", TERM, 3, 4), False), (("never", TERM, 0, 3), False), (("never", ("app", 3) + OMEGA, 0, 1), True),
            (("never", ("app", "app", "lam", 0, TERM[-1]) + OMEGA, 0, 1), False), (("never", ("app", "app", "lam", 0, 5) + OMEGA, 1, 2), True),
            (("never", ("app", "lam", 1) + OMEGA, 0, 1), False),
        ):
            self.check(claim, wanted)

    def test_standard(self):
        for claim, wanted in (
            (("standard", TERM, ["a", ""], ["", "f", "a"]), True), (("standard", TERM, ["", "f", "a"], ["a", ""]), False),
            (("standard", TERM, ["a", ""], ["a", ""]), False), (("standard", TERM, [], []), True), (("standard", TERM, ["a"], ["a"]), True),
            (("standard", TERM, ["a", ""], ["", "f"]), False), (("standard", TERM, ["a", ""], ["", "f", "f"]), False),
            (("standard", TERM, ["f"], ["", "f", "a"]), False), (("standard", TERM, ["", "a", "f"], ["", "f", "a"]), True),
            (("standard", OMEGA, [""], ["", ""]), True), (("standard", OMEGA, [""] * 200, [""] * 199), True),
        ):
            self.check(claim, wanted)

    def test_standard_roads_of_random_roads(self):
        source = random.Random(121)
        for tree in helper.random_trees(122, 60, 30):
            road, _ = helper.random_road(source, tree, 4)
            try:
                other = standard(helper.flat(tree), road)
            except LyditeError:
                continue
            self.check(("standard", helper.flat(tree), road, other), True)
            self.check(("standard", helper.flat(tree), road, road), road == other)

    def test_apart(self):
        arguments = tell(TRUE, FALSE)
        for claim, wanted in (
            (("apart", TRUE, FALSE, arguments, 5), True), (("apart", TRUE, FALSE, arguments, 20000), True),
            (("apart", TRUE, FALSE, arguments, 4), False), (("apart", FALSE, TRUE, arguments, 50), False), (("apart", TRUE, TRUE, arguments, 50), False),
            (("apart", FALSE, FALSE, arguments, 50), False), (("apart", TRUE, FALSE, arguments[:-1], 50), False),
            (("apart", TRUE, FALSE, [], 0), True), (("apart", FALSE, TRUE, [], 0), False), (("apart", TRUE, (0,), [], 5), False),
            (("apart", (0,), FALSE, [], 5), False), (("apart", OMEGA, FALSE, [], 50), False), (("apart", TRUE, OMEGA, [], 50), False),
            (("apart", TRUE, FALSE, [TRUE, FALSE], 50), True), (("apart", TRUE, FALSE, [FALSE, TRUE], 50), False),
            # the order of the arguments counts, and an application that is too large
            (("apart", TRUE, FALSE, arguments[::-1], 50), False), (("apart", TRUE, FALSE, [helper.lam_chain(998)], 50), False),
            (("apart", ("app", "lam", 0, "lam", "lam", 1), FALSE, [], 1), True), (("apart", ("app", "lam", 0, "lam", "lam", 1), FALSE, [], 0), False),
        ):
            self.check(claim, wanted)

    def test_apart_for_settled_terms(self):
        terms = [helper.flat(tree) for tree in helper.settled_trees(6)]
        for first, second in itertools.permutations(terms[:14], 2):
            self.check(("apart", first, second, tell(first, second), 500), True)
            self.check(("apart", second, first, tell(first, second), 500), False)

    def test_each(self):
        terms = [TRUE, FALSE, IDENTITY]
        tells = choose(terms)
        for claim, wanted in (
            (("each", tells, terms, 30), True), (("each", tells, terms, 20000), True), (("each", tells, terms[:2], 30), False),
            (("each", tells, terms[::-1], 30), False), (("each", tells, terms, 5), False), (("each", tells, [], 30), False),
            (("each", ("lam", "lam", 0), [(0,)], 1), True), (("each", ("lam", "lam", 0), [OMEGA], 1), True), (("each", ("lam", "lam", 0), [(0,)], 0), False),
            (("each", IDENTITY, [IDENTITY], 1), True), (("each", IDENTITY, [TRUE, FALSE], 1), True), (("each", IDENTITY, [FALSE, TRUE], 1), False),
            (("each", IDENTITY, [projection(index, 12) for index in range(12)], 1), True),
            (("each", IDENTITY, [projection(index, 13) for index in range(13)], 1), False),
            (("each", IDENTITY, [projection(index, 12) for index in range(11)] + [OMEGA], 100), False),
            (("each", IDENTITY, [TRUE, TRUE], 1), False), (("each", (5,), [TRUE], 100), False), (("each", IDENTITY, [helper.lam_chain(999)], 1), False),
        ):
            self.check(claim, wanted)

    def test_kinds_and_principal(self):
        for claim, wanted in (
            (("kinds", IDENTITY, [("to", 0, 0)]), True), (("kinds", IDENTITY, [("to", 0, 1)]), False), (("kinds", IDENTITY, []), False),
            (("kinds", IDENTITY, [("to", "to", 1, 2, "to", 1, 2)]), True), (("kinds", (0,), [(3,), (3,)]), True), (("kinds", (0,), [(3,)]), False),
            (("kinds", ("lam", "app", 0, 0), [("to", 0, 0)]), False), (("kinds", (1000000,), [(0,)] * 200), False),
            (("kinds", (198,), [(0,)] * 200), True), (("kinds", (199,), [(0,)] * 200), False),
            (("principal", IDENTITY, [("to", 0, 0)]), True), (("principal", IDENTITY, [("to", 1, 1)]), False),
            (("principal", IDENTITY, [("to", "to", 0, 1, "to", 0, 1)]), False), (("principal", (0,), [(0,), (0,)]), True),
            (("principal", (0,), [(0,), (0,), (0,)]), False), (("principal", (0,), []), False), (("principal", OMEGA, [(0,)]), False),
            (("principal", (1000000,), [(0,)] * 200), False), (("principal", helper.lam_chain(600), [(0,)]), False),
            (("kinds", (198,), [(n,) for n in range(199)] + [(198,)]), True), (("principal", (198,), [(n,) for n in range(199)] + [(198,)]), True),
        ):
            self.check(claim, wanted)

    def test_no_kinds(self):
        for term, wanted in (
            (OMEGA, True), (("app", 0, 0), True), (named("fix"), True), (("lam", 0), False), ((0,), False), (TERM, True),
            # TooLarge is an error that is not the named one.
            ((201,), False), (("app", 201, 201), False), (("app", 200, 200), True), (helper.lam_chain(600), False), (number(3), False),
            (("app", 0, "app", 1, 1), True), (helper.function_chain(999), True),
        ):
            self.check(("no kinds", term), wanted)

    def test_combined(self):
        for claim, wanted in (
            (("combined", IDENTITY, ("I",)), True), (("combined", IDENTITY, ("K",)), False), (("combined", (0,), (0,)), True),
            (("combined", IDENTITY, ("app", "app", "S", "K", "K")), False), (("combined", TRUE, ("app", "app", "S", "app", "K", "K", "I")), True),
            (("combined", TRUE, ("K",)), False), (("combined", helper.lam_chain(600), ("I",)), False),
            (("combined", named("succ"), combination_of(named("succ"))), True),
        ):
            self.check(claim, wanted)

    def test_claims_that_are_nearly_shown(self):
        # Each claim of SHOWN with another term in one place.
        for claim in SHOWN:
            for at, part in enumerate(claim):
                if isinstance(part, tuple) and claim[0] != "combined":
                    self.check(claim[:at] + ((9,),) + claim[at + 1:], False)
                if isinstance(part, list):
                    self.check(claim[:at] + (part[1:],) + claim[at + 1:], False)
                    if claim[0] != "same":
                        self.check(claim[:at] + (part + part[:1],) + claim[at + 1:], False)
                if isinstance(part, int) and part > 0:
                    self.check(claim[:at] + (0,) + claim[at + 1:], False)

    def test_claims_with_more_steps(self):
        for claim in SHOWN:
            if isinstance(claim[-1], int) and claim[0] != "never":
                for steps in (claim[-1] + 1, claim[-1] + 100, 20000):
                    self.check(claim[:-1] + (steps,), True)

    def test_values_that_are_no_claim(self):
        for value in (
            None, (), [], 0, "leads", ("leads", (0,), (0,)), ["leads", (0,), (0,), []], ("leads", (True,), (1,), []), ("leads", (0,), (0,), ()),
            ("normal", (0,), (0,), -1), ("normal", (0,), (0,), True), ("other", (0,)), ("leads", helper.lam_chain(1001), helper.lam_chain(1001), []),
            ("never", OMEGA, False, True),
        ):
            self.assertIs(is_shown(value), False)

    def test_claims_on_long_terms(self):
        for term in helper.long_terms(1000):
            self.check(("leads", term, term, []), True)
            self.check(("normal", term, term, 0), True)
            self.check(("same", term, term, [], []), True)
            self.check(("standard", term, [], []), True)
            self.check(("never", term, 0, 1), False)
            self.check(("apart", term, term, [], 0), False)
            self.check(("each", IDENTITY, [term], 1), False)
            self.check(("kinds", term, [(0,)]), False)
            self.check(("combined", term, ("S",)), False)
            is_shown(("no kinds", term))


class NeverBoth(unittest.TestCase):
    """The claims that point 44 excludes are never both shown."""

    def test_of_many_terms(self):
        source = random.Random(123)
        trees = helper.random_trees(124, 60, 16) + helper.trees(6, (0,))[::3] + [helper.tree_of(OMEGA)] * 3
        kept = []
        for tree in trees:
            s = helper.flat(tree)
            road, end = helper.random_road(source, tree, 3)
            kept.append((s, [helper.flat(end), s], [road, []]))
        shown = {"normal": 0, "never": 0, "no kinds": 0, "principal": 0}
        for s, ends, roads in kept:
            normals = set()
            for t in ends + [(0,), TRUE, FALSE, self.end_of(s)]:
                if is_shown(("normal", s, t, 200)):
                    normals.add(t)
            never = any(is_shown(("never", s, k, m)) for k, m in ((0, 1), (1, 2), (0, 2), (3, 5)))
            untyped = is_shown(("no kinds", s))
            typed = is_shown(("principal", s, self.kinds_of(s))) or is_shown(("kinds", s, self.kinds_of(s)))
            self.assertLessEqual(len(normals), 1)
            self.assertFalse(normals and never)
            self.assertNotEqual(typed, untyped)
            self.assertFalse(typed and never)
            for word, value in (("normal", normals), ("never", never), ("no kinds", untyped), ("principal", typed)):
                shown[word] += bool(value)
        self.assertGreater(min(shown.values()), 2)

    def end_of(self, s):
        try:
            return normal(s, 200)[0]
        except LyditeError:
            return s

    def kinds_of(self, s):
        try:
            return principal(s)
        except NoKind:
            return [(0,)] * (1 + max(helper.free_of(helper.tree_of(s)), default=-1) + 1)

    def test_same_and_leads_and_apart(self):
        redex = ("app", "lam", 0) + TRUE
        for s, t in itertools.product((TRUE, FALSE, redex, IDENTITY, OMEGA), repeat=2):
            same = any(
                is_shown(("same", s, t, first, second)) or is_shown(("leads", s, t, first))
                for first in ([], [""]) for second in ([], [""]))
            try:
                arguments = tell(normal(s, 5)[0], normal(t, 5)[0])
            except LyditeError:
                arguments = []
            apart = any(is_shown(("apart", s, t, l, 100)) for l in ([], arguments, [TRUE, FALSE]))
            self.assertFalse(same and apart)
        self.assertIs(is_shown(("apart", redex, FALSE, tell(TRUE, FALSE), 100)), True)
        self.assertRaises(BadCrowd, tell, redex, FALSE)


class Texts(unittest.TestCase):
    def test_each_word(self):
        for claim, text in zip(SHOWN, TEXTS):
            if text is not None:
                self.assertEqual(claim_text(claim), text)
                self.assertEqual(read_claim(text), claim)
            self.assertEqual(read_claim(claim_text(claim)), claim)

    def test_examples(self):
        for claim, text in (
            (("leads", (0,), (0,), []), "leads;0;0;0"), (("leads", (0,), (0,), [""]), "leads;0;0;1;"), (("leads", (0,), (0,), ["", "b"]), "leads;0;0;2;;b"),
            (("leads", (0,), (0,), ["", ""]), "leads;0;0;2;;"), (("same", (0,), (1,), [], []), "same;0;1;0;0"),
            (("same", (0,), (1,), [""], ["", "fa"]), "same;0;1;1;;2;;fa"), (("standard", (1000000,), ["bfa"], []), "standard;1000000;1;bfa;0"),
            (("normal", ("lam", 0), ("app", 10, 2), 20000), "normal;lam 0;app 10 2;20000"), (("never", (3,), 0, 10), "never;3;0;10"),
            (("apart", (0,), (1,), [], 7), "apart;0;1;0;7"), (("each", (0,), [(1,), ("lam", 2)], 7), "each;0;2;1;lam 2;7"),
            (("kinds", (0,), []), "kinds;0;0"), (("kinds", (0,), [("to", 0, 1000000)]), "kinds;0;1;to 0 1000000"),
            (("principal", ("lam", 0), [(5,), (6,)]), "principal;lam 0;2;5;6"), (("no kinds", (7,)), "no kinds;7"),
            (("combined", (0,), ("app", "S", "app", "K", 12)), "combined;0;app S app K 12"), (("combined", (0,), ("I",)), "combined;0;I"),
        ):
            with self.subTest(text=text):
                self.assertEqual(claim_text(claim), text)
                self.assertEqual(read_claim(text), claim)
                self.assertIs(is_claim(read_claim(text)), True)

    def test_values_stay_apart_from_one_another(self):
        claim = ("leads", (0,), (0,), ["b"])
        text = claim_text(claim)
        first = read_claim(text)
        first[3].append("a")
        self.assertEqual(read_claim(text), claim)
        self.assertEqual(claim, ("leads", (0,), (0,), ["b"]))
        self.assertIsInstance(read_claim("kinds;0;1;to 0 0")[2], list)
        self.assertIsInstance(read_claim("leads;0;0;1;")[3], list)

    def check_bad(self, texts):
        for text in texts:
            with self.subTest(text=text[:80]):
                self.assertRaises(BadClaim, read_claim, text)

    def test_bad_texts(self):
        self.check_bad([
            "", ";", "leads", "leads;", "leads;0", "leads;0;0", "leads;0;0;", "leads;0;0;1", "leads;0;0;2;b", "leads;0;0;0;", "leads;0;0;0;b",
            "leads;0;0;1;b;", "leads;0;0;1;x", "leads;0;0;1;b b", "leads;0;0;-1", "leads;0;0;00", "leads;0;0;01;b", "leads;0;0;+1;b",
            "leads;0;0; 1;b", "leads;0;0;1 ;b", "leads;0;0;one;b", "leads;;0;0", "leads;0;;0", " leads;0;0;0", "leads ;0;0;0", "Leads;0;0;0",
            "leads;0;0;0\n", "leads,0,0,0", "leads:0:0:0", "other;0;0;0", "leads;lam;0;0", "leads;app 0;0;0", "leads;0 0;0;0", "leads;lam  0;0;0",
            "leads;lam 0 ;0;0", "leads; lam 0;0;0", "leads;lam\t0;0;0", "leads;Lam 0;0;0", "leads;to 0 0;0;0", "leads;S;0;0", "leads;00;0;0",
            "leads;lam 00;0;0", "leads;-1;0;0", "leads;+1;0;0", "leads;1000001;0;0", "leads;0001;0;0", "leads;1_0;0;0", "leads;1.0;0;0",
            "leads;True;0;0", "leads;None;0;0", "leads;?;0;0", "normal;0;0;20001", "normal;0;0;-1", "normal;0;0;", "normal;0;0;007", "normal;0;0;5;",
            "normal;0;0;5;5", "normal;0;0;x", "normal;0;0;lam", "normal;0;0;5 5", "never;0;1", "never;0;1;2;3", "never;0;;2", "no kinds", "no kinds;",
            "no kinds;0;", "no  kinds;0", "no_kinds;0", "nokinds;0", "no;kinds;0", "kinds;0;1;lam 0", "kinds;0;1;to 0", "kinds;0;1;", "kinds;0;2;0",
            "combined;0;lam 0", "combined;0;", "combined;0;SK", "combined;0;s", "combined;0;app S", "combined;0;1;S", "each;0;1;0", "each;0;0",
            "apart;0;0;1;0", "apart;0;0;0", "apart;0;1;0;0;0;5", "each;0;2;0;5",
        ])

    def test_digits_of_other_scripts_and_long_numbers(self):
        self.check_bad([
            "leads;\u0661;0;0", "leads;\u00b2;0;0", "normal;0;0;\u0665", "leads;0;0;\u0661;b", "leads;0;0;1;\u00e9", "leads;\uff10;0;0",
            "leads;" + "9" * 5000 + ";0;0", "normal;0;0;" + "1" * 5000, "leads;0;0;" + "2" * 5000, "normal;0;0;" + "0" * 5000, "no kinds;10000000",
        ])

    def test_texts_with_one_sign_left_out_put_in_or_replaced(self):
        signs = "0;1 lamfbKS"
        texts = [claim_text(claim) for claim in SHOWN if claim[0] != "each"]
        texts += ["each;lam 0;2;lam lam 1;lam lam 0;17", "leads;0;0;0", "same;12;3;1;;2;;b"]
        good = 0
        for text in texts:
            for at in range(len(text) + 1):
                others = [text[:at] + sign + text[at:] for sign in signs]
                if at < len(text):
                    others += [text[:at] + text[at + 1:]] + [text[:at] + sign + text[at + 1:] for sign in signs]
                for other in others:
                    try:
                        claim = read_claim(other)
                    except BadClaim:
                        continue
                    good += 1
                    self.assertEqual(claim_text(claim), other)
                    self.assertIs(is_claim(claim), True)
                    self.assertIs(claim == read_claim(text), other == text)
        self.assertGreater(good, 50)

    def test_lists_of_199_to_202_members(self):
        for many in (199, 200, 201, 202):
            for text in (
                f"leads;0;0;{many}" + ";b" * many, f"leads;0;0;{many}" + ";" * many, f"standard;0;0;{many}" + ";fa" * many,
                f"apart;0;0;{many}" + ";lam 0" * many + ";7", f"kinds;0;{many}" + ";to 0 1" * many, f"principal;0;{many}" + ";5" * many,
                f"each;0;{many}" + ";0" * many + ";7",
            ):
                if many <= 200:
                    claim = read_claim(text)
                    self.assertEqual(claim_text(claim), text)
                    self.assertEqual(max(len(part) for part in claim if isinstance(part, list)), many)
                else:
                    self.check_bad([text])
        self.check_bad(["leads;0;0;100000" + ";b" * 100000, "leads;0;0;1000000;b", "leads;0;0;200;b"])

    def test_terms_of_998_to_1001_nodes(self):
        for size in (998, 999, 1000, 1001):
            for term in helper.long_terms(size):
                for claim in (("no kinds", term), ("leads", (0,), term, [""]), ("apart", (0,), (0,), [(0,), term], 3), ("combined", term, ("I",))):
                    text = helper.with_little_stack(claim_text, claim)
                    self.assertEqual(text.count(" "), size - 1 + (claim[0] == "no kinds"))
                    if size <= 1000:
                        self.assertEqual(helper.with_little_stack(read_claim, text), claim)
                    else:
                        self.assertRaises(BadClaim, helper.with_little_stack, read_claim, text)
        for size in (999, 1001):
            kind, value = ("to", 3) * (size // 2) + (0,), ("app", "S") * (size // 2) + (3,)
            for claim in (("kinds", (0,), [kind]), ("combined", (0,), value)):
                if size <= 1000:
                    self.assertEqual(read_claim(claim_text(claim)), claim)
                else:
                    self.assertRaises(BadClaim, read_claim, claim_text(claim))

    def test_what_is_read_is_shown_as_before(self):
        for claim in SHOWN:
            self.assertIs(is_shown(read_claim(claim_text(claim))), True)

    def test_claims_of_other_functions(self):
        term = applied(named("add"), [number(2), number(3)])
        found, steps = normal(term, 100)
        road = first_steps(term, 200)
        for claim in (
            ("normal", term, found, steps), ("leads", term, found, road), ("same", term, number(5), road, []),
            ("standard", term, road, road), ("combined", term, combination_of(term)), ("principal", term, principal(term)),
        ):
            self.assertIs(is_shown(claim), True)
            self.assertEqual(read_claim(claim_text(claim)), claim)
        self.assertEqual(follow(term, road), found)


if __name__ == "__main__":
    unittest.main()
