import itertools
import random
import unittest

from lydite.apart import (
    MOST_ARGUMENTS, applied, choose, projection, separate, tell, tupler,
)
from lydite.errors import AllEqual, BadCrowd, OutOfSteps, TooLarge
from lydite.looks import turns
from lydite.notation import parse
from lydite.order import normal
from lydite.terms import free, is_term
from tests import helper

SETTLED = helper.settled_trees(7)
IDENTITY = ("lam", 0)


def term_of(text):
    return parse(text, ["x", "y", "z"])


def terms_of(*texts):
    return [term_of(text) for text in texts]


def flats(trees):
    return [helper.flat(tree) for tree in trees]


def projection_of(index, count):
    return ("lam",) * count + (count - 1 - index,)


def tupler_of(count):
    return ("lam",) * (count + 1) + ("app",) * count + (0,) + tuple(range(count, 0, -1))


def widths_of(found):
    """Return the widths of the levels, by the words of point 30."""
    widths = {}
    for spot in found:
        for level, many in spot.forms:
            widths[level] = max(widths.get(level, 0), many)
    forms, done = found[-1].forms, []
    for level in dict.fromkeys(found[-1].heads):
        def fits(width):
            earlier = [widths[other] - many for other, many in forms if other in done]
            mine = [width - many for other, many in forms if other == level]
            return not set(earlier) & set(mine)
        widths[level] = next(w for w in itertools.count(widths[level]) if fits(w))
        done.append(level)
    return widths


def separated(found):
    """Return the arguments and the groups, by the words of points 29 and 31."""
    widths, arguments = widths_of(found), []
    groups = list(dict.fromkeys(found[-1].forms))
    for spot in found:
        for level in range(spot.first, spot.first + spot.count):
            arguments.append(tupler_of(widths[level]) if level in widths else IDENTITY)
        if spot.turn is not None:
            level, many = spot.forms[0]
            arguments += [IDENTITY] * (widths[level] - many)
            arguments.append(projection_of(spot.turn, widths[level]))
    ranks = {widths[level] - many: (number, widths[level]) for number, (level, many) in enumerate(groups)}
    most = max(ranks)
    for rank in range(most + 1):
        argument = IDENTITY
        if rank in ranks:
            number, width = ranks[rank]
            argument = ("lam",) * (width + most - rank) + projection_of(number, len(groups))
        arguments.append(argument)
    return arguments, [groups.index(form) for form in found[-1].forms]


def steps_of(found, number):
    """Return how many steps a term of a crowd takes, by the words of point 32."""
    widths, steps = widths_of(found), 0
    for spot in found:
        level, many = spot.forms[number]
        steps += spot.own[number]
        if spot.turn is not None:
            steps += 2 * widths[level] + 1
        else:
            most = max(widths[other] - p for other, p in spot.forms)
            steps += widths[level] + many + most + 1
    return steps


class Projection(unittest.TestCase):
    def test_examples(self):
        self.assertEqual(projection(0, 1), ("lam", 0))
        self.assertEqual(projection(0, 2), ("lam", "lam", 1))
        self.assertEqual(projection(1, 2), ("lam", "lam", 0))
        self.assertEqual(projection(2, 5), term_of("\\a b c d e. c"))

    def test_an_index_at_both_ends_and_400(self):
        for count in (1, 2, 3, 399, 400):
            for index in {0, 1 % count, count - 1}:
                result = projection(index, count)
                self.assertEqual(result, projection_of(index, count))
                self.assertIs(is_term(result), True)
                self.assertEqual(free(result), [])

    def test_it_leads_to_the_argument(self):
        for count in (1, 2, 3, 7):
            arguments = [(n,) for n in range(count)]
            for index in range(count):
                self.assertEqual(normal(applied(projection(index, count), arguments), count), ((index,), count))


class Tupler(unittest.TestCase):
    def test_examples(self):
        self.assertEqual(tupler(0), ("lam", 0))
        self.assertEqual(tupler(1), term_of("\\a b. b a"))
        self.assertEqual(tupler(2), term_of("\\a b c. c a b"))
        self.assertEqual(tupler(3), term_of("\\a b c d. d a b c"))

    def test_up_to_1000_nodes(self):
        for count in (4, 100, 331, 332):
            self.assertEqual(tupler(count), tupler_of(count))
            self.assertEqual(len(tupler(count)), 3 * count + 2)
            self.assertIs(is_term(tupler(count)), True)
        for count in (333, 334, 399, 400):
            self.assertRaises(TooLarge, tupler, count)

    def test_it_leads_to_the_function_applied_to_the_arguments(self):
        for count in range(6):
            arguments = [(n,) for n in range(count)]
            wanted = applied((9,), arguments)
            self.assertEqual(normal(applied(tupler(count), arguments + [(9,)]), count + 1), (wanted, count + 1))


class Applied(unittest.TestCase):
    def test_examples(self):
        self.assertEqual(applied((3,), []), (3,))
        self.assertEqual(applied((3,), [(4,)]), ("app", 3, 4))
        self.assertEqual(applied((3,), [(4,), ("lam", 0), (5,)]), ("app", "app", "app", 3, 4, "lam", 0, 5))
        self.assertEqual(applied(("lam", 0), [("app", 1, 2)]), ("app", "lam", 0, "app", 1, 2))
        self.assertEqual(applied(("app", 1, 2), [(3,)]), ("app", "app", 1, 2, 3))

    def test_arguments_stay_as_they_are(self):
        arguments = [(4,), ("lam", 0)]
        applied((3,), arguments)
        self.assertEqual(arguments, [(4,), ("lam", 0)])

    def test_1000_and_1001_nodes(self):
        for first, sizes in ((1, [998]), (998, [1]), (400, [299, 299]), (500, [1] * 250), (500, [2] * 166 + [1])):
            arguments = [helper.lam_chain(size) for size in sizes]
            result = helper.with_little_stack(applied, helper.lam_chain(first), arguments)
            self.assertEqual(len(result), 1000)
            self.assertIs(is_term(result), True)
            self.assertRaises(TooLarge, applied, helper.lam_chain(first + 1), arguments)
        self.assertEqual(len(applied((0,), [(0,)] * 499)), 999)
        self.assertRaises(TooLarge, applied, (0,), [(0,)] * 500)
        self.assertEqual(applied(helper.lam_chain(1000), []), helper.lam_chain(1000))
        for term in helper.long_terms(1000):
            self.assertRaises(TooLarge, applied, term, [(0,)])
            self.assertRaises(TooLarge, applied, (0,), [term])

    def test_far_variables(self):
        self.assertEqual(applied((1000000,), [(1000000,)]), ("app", 1000000, 1000000))
        self.assertRaises(TooLarge, applied, (0,), [(1000001,)])
        self.assertRaises(TooLarge, applied, (1000001,), [])


class Separate(unittest.TestCase):
    def check(self, trees):
        """Check what separate returns for trees, and return it."""
        crowd = flats(trees)
        before = list(crowd)
        found = helper.spots(trees)
        arguments, groups = separate(crowd)
        self.assertEqual(crowd, before)
        self.assertEqual((arguments, groups), separated(found))
        self.assertTrue(all(is_term(argument) and free(argument) == [] for argument in arguments))
        for number, term in enumerate(crowd):
            steps = steps_of(found, number)
            wanted = (projection(groups[number], max(groups) + 1), steps)
            try:
                whole = applied(term, arguments)
                self.assertEqual(normal(whole, steps), wanted)
            except TooLarge:
                continue
            self.assertRaises(OutOfSteps, normal, whole, steps - 1)
        return arguments, groups

    def test_the_limit(self):
        self.assertEqual(MOST_ARGUMENTS, 400)

    def test_the_example_of_point_32(self):
        crowd = terms_of("\\a b. a", "\\a b. b")
        wanted = terms_of("\\a. a", "\\a b. b a", "\\a b c. b", "\\a b c. c")
        self.assertEqual(separate(crowd), (wanted, [0, 1]))
        self.assertEqual(tell(crowd[0], crowd[1]), wanted)
        # The first term gets the least width.
        self.assertEqual(
            separate(crowd[::-1]), (terms_of("\\a b. b a", "\\a. a", "\\a b c. b", "\\a b c. c"), [0, 1]))

    def test_examples_by_hand(self):
        # One level with 0 and 1 arguments: the width 1 and the ranks 1 and 0.
        self.assertEqual(
            separate(terms_of("\\a. a", "\\a. a a")),
            (terms_of("\\a b. b a", "\\a b c d. d", "\\a b c. b"), [0, 1]))
        # The end is behind the turn 1: the variables a and b, with the widths 2 and 0.
        self.assertEqual(
            separate(terms_of("\\a b. a b a", "\\a b. a b b")),
            (terms_of("\\a b c. c a b", "\\a. a", "\\a b. b", "\\a b c d. d", "\\a. a", "\\a b c d. c"), [0, 1]))
        # Three terms and two groups, with other numbers of abstractions.
        self.assertEqual(
            separate(terms_of("\\a b. b", "\\a b. a", "\\a b c. b b")),
            (terms_of("\\a b c. c a b", "\\a b. b a", "\\a. a", "\\a b c d. c", "\\a b c d. d"), [0, 1, 0]))
        # At the first position the head has the width 2 because of the end, but one argument.
        self.assertEqual(
            separate(terms_of("\\a. a a", "\\a. a (a a a)")),
            (terms_of("\\a b c. c a b", "\\a. a", "\\a b. a", "\\a b c d e f. f", "\\a. a", "\\a b c d. c"), [0, 1]))

    def test_all_pairs_of_small_settled_terms(self):
        for first, second in itertools.permutations(SETTLED[:60], 2):
            self.check([first, second])

    def test_pairs_of_settled_terms(self):
        for first, second in itertools.combinations(SETTLED[::2], 2):
            arguments, _ = self.check([first, second])
            self.assertEqual(tell(helper.flat(first), helper.flat(second)), arguments)

    def test_larger_crowds(self):
        source = random.Random(95)
        lengths, group_counts = [], []
        for _ in range(400):
            trees = helper.random_crowd(source, 20)
            if len(trees) > 1 and len(set(trees)) > 1:
                _, groups = self.check(trees)
                lengths.append(len(helper.spots(trees)))
                group_counts.append(max(groups) + 1)
        self.assertGreater(max(lengths), 3)
        self.assertEqual(min(group_counts), 2)
        self.assertGreater(max(group_counts), 5)

    def test_widths_beyond_the_need(self):
        # Heads of many levels without arguments: the ranks 0, 1, 2, ....
        trees = [helper.tree_of(projection(index, 12)) for index in range(12)]
        arguments, groups = self.check(trees)
        self.assertEqual(groups, list(range(12)))
        self.assertEqual(arguments[:12], [tupler(count) for count in range(12)])
        self.assertEqual(len(arguments), 24)
        # Heads of one level with 0 to 11 arguments: the ranks 11 to 0.
        trees = [helper.tree_of(("lam",) + ("app",) * n + (0,) * (n + 1)) for n in range(12)]
        arguments, groups = self.check(trees)
        self.assertEqual(groups, list(range(12)))
        self.assertEqual(arguments[0], tupler(11))
        # A level may have to leave out several widths.
        trees = [helper.tree_of(term) for term in terms_of(
            "\\a b. a", "\\a b. a a", "\\a b. a a a a", "\\a b. b", "\\a b. b b", "\\a b. b b b b b")]
        arguments, groups = self.check(trees)
        self.assertEqual(groups, [0, 1, 2, 3, 4, 5])

    def test_free_variables_of_arguments(self):
        for texts in (
            ("\\a. a (\\b. a)", "\\a. a (\\b. b)"), ("\\a b. b (\\c. a)", "\\a b. b (\\c. b)"),
            ("\\a b. b (\\c. a c c)", "\\a b. b (\\c. b c c)"), ("\\a. a (\\b. b (\\c. a (\\d. b)))", "\\a. a (\\b. b (\\c. a (\\d. c)))"),
            ("\\a. a", "\\a b. a (\\c. b b)"), ("\\a. a", "\\a b. a (\\c. a b c c)"), ("\\a b c. c (a b) (b a)", "\\a b c. c (a b) (b b)"),
            ("\\a. a (\\b. b a a)", "\\a. a (\\b. a a a)"),
        ):
            with self.subTest(texts=texts):
                self.check([helper.tree_of(term) for term in terms_of(*texts)])

    def test_crowds_of_12_terms_in_groups(self):
        source = random.Random(96)
        for many in (2, 3, 4, 6):
            trees = [helper.tree_of(term_of("\\a b. a " + "b " * n + "(\\c d. c)")) for n in range(many)]
            trees = [source.choice(trees) for _ in range(12 - many)] + trees
            source.shuffle(trees)
            _, groups = self.check(trees)
            self.assertEqual(max(groups) + 1, many)
            self.assertEqual([first == second for first in groups for second in groups], [
                first == second for first in trees for second in trees])

    def test_errors(self):
        true, false = terms_of("\\a b. a", "\\a b. b")
        for crowd in (
            [], [true], [true, false] * 6 + [true], [true, (0,)], [true, ("lam", 1)],
            terms_of("\\a b. a", "(\\a. a) (\\a. a)"), terms_of("\\a b. a b", "\\a b. b"),
            terms_of("\\a b. a", "\\a. a (\\b. a b)"), [(3,), (3,)], terms_of("\\a b. a b") * 2,
        ):
            with self.subTest(crowd=crowd):
                self.assertRaises(BadCrowd, separate, crowd)
                if len(crowd) == 2:
                    self.assertRaises(BadCrowd, tell, *crowd)
        for term in (true, false, IDENTITY):
            self.assertRaises(AllEqual, separate, [term] * 2)
            self.assertRaises(AllEqual, separate, [term] * 12)
            self.assertRaises(AllEqual, tell, term, term)
            self.assertRaises(BadCrowd, separate, [term] * 13)

    def chains(self, many, *texts):
        """Return a crowd: each way leads through 2 arguments so many times."""
        return [("lam", "app", 0) * many + term_of(text) for text in texts]

    def test_up_to_400_arguments(self):
        for many, texts, count in (
            (198, ("\\a b. a", "\\a b. b"), 400), (197, ("\\a b c. b", "\\a b c. c"), 399), (196, ("\\a b. a", "\\a b. b"), 396),
        ):
            crowd = self.chains(many, *texts)
            arguments, _ = helper.with_little_stack(separate, crowd)
            self.assertEqual(len(arguments), count)
            self.assertEqual(tell(*crowd), arguments)
            self.assertEqual((arguments, [0, 1]), separated(helper.spots([helper.tree_of(term) for term in crowd])))
        for many, texts in ((199, ("\\a b. a", "\\a b. b")), (198, ("\\a b c. b", "\\a b c. c")), (330, ("\\a b. a", "\\a b. b"))):
            crowd = self.chains(many, *texts)
            self.assertEqual(turns(crowd), [0] * many)
            self.assertRaises(TooLarge, helper.with_little_stack, separate, crowd)
            self.assertRaises(TooLarge, tell, *crowd)

    def wide(self, need):
        """Return a crowd in which the level 0 has this need, and no head at the end."""
        return [("lam",) + ("app",) * need + (0,) * need + end for end in (("lam", "lam", 0), ("lam", "lam", 1))]

    def test_arguments_of_1000_and_more_nodes(self):
        arguments, groups = helper.with_little_stack(separate, self.wide(332))
        self.assertEqual((max(map(len, arguments)), groups), (998, [0, 1]))
        self.assertEqual(arguments[0], tupler(332))
        self.assertEqual(arguments[1], projection(331, 332))
        for need in (333, 334, 490):
            self.assertEqual(turns(self.wide(need)), [need - 1])
            self.assertRaises(TooLarge, helper.with_little_stack, separate, self.wide(need))
            self.assertRaises(TooLarge, tell, *self.wide(need))
        # Many identities at the end: the ranks 0 and 298.
        trees = [("lam", 0), ("lam",) + ("app",) * 298 + (0,) * 299]
        arguments, groups = separate(trees)
        self.assertEqual((len(arguments), arguments.count(IDENTITY)), (1 + 299, 297))

    def test_no_answer_depends_on_earlier_calls(self):
        crowd = terms_of("\\a b. a", "\\a b. b")
        arguments, groups = separate(crowd)
        arguments.clear()
        groups.clear()
        tell(*crowd).clear()
        self.assertEqual((len(separate(crowd)[0]), separate(crowd)[1], len(tell(*crowd))), (4, [0, 1], 4))


class Choose(unittest.TestCase):
    def check(self, trees):
        """Check what choose returns for trees, and return it."""
        terms = flats(trees)
        before = list(terms)
        result = helper.with_little_stack(choose, terms)
        self.assertEqual(terms, before)
        self.assertEqual((is_term(result), free(result)), (True, []))
        self.assertEqual(result, ("lam",) + self.choice(list(enumerate(trees)), len(trees)))
        for index, term in enumerate(terms):
            try:
                found, _ = normal(applied(result, [term]), 20000)
            except TooLarge:
                continue
            self.assertEqual(found, projection(index, len(terms)))
        return result

    def choice(self, pairs, count):
        """Return the choice of a list of pairs of an index and a tree, by point 33."""
        if len(pairs) == 1:
            return projection_of(pairs[0][0], count)
        arguments, groups = separated(helper.spots([tree for _, tree in pairs]))
        for number in range(max(groups) + 1):
            arguments.append(self.choice([pair for pair, group in zip(pairs, groups) if group == number], count))
        return ("app",) * len(arguments) + (0,) + sum(arguments, ())

    def test_one_term(self):
        for text in ("\\a. a", "\\a b. a", "\\a. a (\\b. b a a)"):
            self.assertEqual(self.check([helper.tree_of(term_of(text))]), ("lam", "lam", 0))

    def test_two_terms(self):
        result = self.check([helper.tree_of(term) for term in terms_of("\\a b. a", "\\a b. b")])
        wanted = "\\a. a (\\b. b) (\\b c. c b) (\\b c d. c) (\\b c d. d) (\\b c. b) (\\b c. c)"
        self.assertEqual(result, term_of(wanted))

    def test_all_small_terms_in_pairs_and_triples(self):
        source = random.Random(97)
        for count in (2, 3, 4, 5):
            for _ in range(60):
                self.check(source.sample(SETTLED, count))

    def test_1_to_12_terms(self):
        # The groups are separated further: by heads, by arguments, and deeper.
        trees = [helper.tree_of(term) for term in terms_of(
            "\\a b. a", "\\a b. b", "\\a b. a a", "\\a b. a b b", "\\a b. a b a", "\\a b. b a", "\\a b. b b", "\\a b. a (b b)",
            "\\a b. a (b a)", "\\a b. b (\\c. c)", "\\a b. b (\\c d. c)", "\\a b. b (\\c d. d)")]
        for count in range(1, 13):
            self.check(trees[:count])
        self.check(trees[::-1])
        self.check([helper.tree_of(projection(index, 12)) for index in range(12)])

    def test_too_large(self):
        # More than 400 arguments, an argument of more than 1,000 nodes.
        chains = [("lam", "app", 0) * 199 + end for end in (("lam", "lam", 0), ("lam", "lam", 1))]
        self.assertRaises(TooLarge, choose, chains)
        wide = [("lam",) + ("app",) * 333 + (0,) * 333 + end for end in (("lam", "lam", 0), ("lam", "lam", 1))]
        self.assertRaises(TooLarge, choose, wide)
        # Also a crowd further inside.
        self.assertRaises(TooLarge, choose, [IDENTITY] + chains)
        self.assertRaises(TooLarge, choose, wide + [("lam", "lam", 0)])
        # No crowd raises it, but the result is too large.
        long = [("lam", "app", 0) * 120 + end for end in (("lam", "lam", 0), ("lam", "lam", 1))]
        self.assertEqual(len(separate(long)[0]), 244)
        self.assertRaises(TooLarge, choose, long)
        shorter = [term[3 * 25:] for term in long]
        self.assertIs(is_term(choose(shorter)), True)

    def test_results_up_to_1000_nodes(self):
        sizes = []
        for many, count, more in itertools.product(range(104, 110), (2, 3), range(3)):
            chains = [
                ("lam", "app", 0) * many + ("lam", "app", "app", 0) * more + projection(index, count) + (0,) * more
                for index in (0, 1)]
            arguments, _ = separate(chains)
            # An abstraction around the variable 0, applied to these and two projections.
            sizes.append(2 + len(arguments) + sum(map(len, arguments)) + 2 + 6)
            if sizes[-1] <= 1000:
                self.assertEqual(len(choose(chains)), sizes[-1])
            else:
                self.assertRaises(TooLarge, choose, chains)
        self.assertIn(1000, sizes)
        self.assertIn(1001, sizes)

    def test_bad_crowds(self):
        true, false = terms_of("\\a b. a", "\\a b. b")
        thirteen = [projection(index, 13) for index in range(13)]
        for terms in (
            [], [true, true], [true, false, true], [true] * 13, thirteen, [(0,)], [true, ("lam", 1)],
            [("app", "lam", 0, "lam", 0)], terms_of("\\a b. a b"), terms_of("\\a b. a", "\\a. a (\\b. a b)"),
            terms_of("\\a. (\\b. b) a", "\\a b. b"), [true, false, (5,)],
        ):
            with self.subTest(terms=terms):
                self.assertRaises(BadCrowd, choose, terms)
        self.assertIs(is_term(choose(thirteen[:12])), True)
        # BadCrowd comes before TooLarge.
        wide = [("lam",) + ("app",) * 333 + (0,) * 333 + end for end in (("lam", "lam", 0), ("lam", "lam", 1))]
        self.assertRaises(BadCrowd, choose, wide + wide[:1])

    def test_no_answer_depends_on_earlier_calls(self):
        terms = terms_of("\\a b. a", "\\a b. b", "\\a. a")
        first = choose(terms)
        choose(terms[:2])
        self.assertRaises(BadCrowd, choose, terms + terms)
        self.assertEqual(choose(terms), first)


if __name__ == "__main__":
    unittest.main()
