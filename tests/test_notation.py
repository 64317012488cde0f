import functools
import itertools
import random
import re
import unittest

from lydite.errors import BadNames, BadText, TooLarge
from lydite.notation import parse, show
from lydite.terms import abstraction, application, is_term
from tests import helper

SMALL = helper.trees_up_to(6, (0, 1, 2))
FREE = ["x", "y2", "b"]


# A second opinion on texts: the grammar of point 7 word by word, as the set of
# the indexes at which a term, an abstraction or a part can end.

def term_ends(words, at):
    found = set(abstraction_ends(words, at))
    ends = part_ends(words, at)
    while ends:
        found |= ends
        for end in ends:
            found |= abstraction_ends(words, end)
        ends = set().union(*[part_ends(words, end) for end in ends])
    return found


def abstraction_ends(words, at):
    if words[at:at + 1] != ("\\",):
        return set()
    end = at + 1
    while end < len(words) and words[end][0].isalpha():
        end += 1
    if end == at + 1 or words[end:end + 1] != (".",):
        return set()
    return term_ends(words, end + 1)


def part_ends(words, at):
    if at < len(words) and words[at][0].isalpha():
        return {at + 1}
    if words[at:at + 1] != ("(",):
        return set()
    return {end + 1 for end in term_ends(words, at + 1) if words[end:end + 1] == (")",)}


def is_text(words):
    return len(words) in term_ends(words, 0)


@functools.lru_cache(maxsize=None)
def completed(words):
    """Return words that complete these to a text, or None if there are none."""
    closing = (")",) * (words.count("(") - words.count(")"))
    for middle in ((), ("z",), ("z", ".", "z"), (".", "z")):
        if is_text(words + middle + closing):
            return words + middle + closing
    return None


def split(text):
    """Return the tokens with their indexes, and the index of a wrong character."""
    tokens, at = [], 0
    while at < len(text):
        found = re.compile("[a-z][0-9]*|[\\\\.()]| ").match(text, at)
        if found is None:
            return tokens, at
        if len(found.group()) > 10:
            return tokens, at + 10
        if found.group() != " ":
            tokens.append((found.group(), at))
        at = found.end()
    return tokens, None


def reading(words, names):
    """Return the tree of a text, and the numbers of the words that stand for nothing."""
    unknown = []

    def term(at, around):
        function = None
        while at < len(words) and words[at] != ")":
            if words[at] == "\\":
                part, at = inside(at + 1, around)
            elif words[at] == "(":
                part, at = term(at + 1, around)
                at += 1
            else:
                part, at = variable(at, around), at + 1
            function = part if function is None else ("app", function, part)
        return function, at

    def inside(at, around):
        if words[at] == ".":
            return term(at + 1, around)
        body, end = inside(at + 1, [words[at]] + around)
        return ("lam", body), end

    def variable(at, around):
        known = around + list(names)
        if words[at] not in known:
            unknown.append(at)
            return 0
        return known.index(words[at])

    return term(0, [])[0], unknown


def sixty_first(words):
    """Return the number of the word that is open as the 61st one, or None."""
    opened = []
    for at, word in enumerate(words):
        if word in ("(", "\\"):
            opened.append(word)
        elif word == ")":
            while opened.pop() == "\\":
                pass
        if len(opened) > 60:
            return at
    return None


def opinion(text, names):
    """Return the term of a text, or the index at which it fails."""
    tokens, wrong = split(text)
    words = tuple(word for word, _ in tokens)
    low, high = 0, len(words)
    while low < high:
        middle = (low + high + 1) // 2
        if completed(words[:middle]):
            low = middle
        else:
            high = middle - 1
    tree, unknown = reading(completed(words[:low]), names)
    faults = [tokens[at][1] for at in unknown if at < low]
    if low < len(words):
        faults.append(tokens[low][1])
    if sixty_first(words[:low]) is not None:
        faults.append(tokens[sixty_first(words[:low])][1])
    if wrong is not None:
        faults.append(wrong)
    elif not is_text(words):
        faults.append(len(text))
    return min(faults) if faults else helper.flat(tree)


def answer(text, names):
    """Return what parse returns, or the index of its BadText."""
    try:
        return parse(text, names)
    except BadText as error:
        return error.at


class ParseTerms(unittest.TestCase):
    def check(self, wanted):
        for text, term in wanted:
            with self.subTest(text=text):
                self.assertEqual(parse(text, ["x", "y", "a1"]), term)

    def test_names(self):
        self.check([
            ("x", (0,)), ("y", (1,)), ("a1", (2,)), (" x", (0,)), ("x  ", (0,)), ("(x)", (0,)),
        ])
        self.assertEqual(parse("z9", ["a"] + [f"z{n}" for n in range(20)]), (10,))

    def test_abstractions(self):
        self.check([
            ("\\a. a", ("lam", 0)), ("\\a.x", ("lam", 1)), ("\\a b. a", ("lam", "lam", 1)),
            ("\\a b c. b", ("lam", "lam", "lam", 1)), ("\\a.\\b.a", ("lam", "lam", 1)),
            ("\\a. a1", ("lam", 3)), ("\\a b. y", ("lam", "lam", 3)),
        ])

    def test_applications_go_from_left_to_right(self):
        self.check([
            ("x y", ("app", 0, 1)), ("x y a1", ("app", "app", 0, 1, 2)),
            ("x (y a1)", ("app", 0, "app", 1, 2)), ("(x y) a1", ("app", "app", 0, 1, 2)),
            ("x y x y", ("app", "app", "app", 0, 1, 0, 1)),
            ("x (y (x y))", ("app", 0, "app", 1, "app", 0, 1)),
        ])

    def test_an_abstraction_as_the_last_part(self):
        self.check([
            ("x \\a. a y", ("app", 0, "lam", "app", 0, 2)),
            ("x y \\a. a", ("app", "app", 0, 1, "lam", 0)),
            ("x \\a. a \\b. a b", ("app", 0, "lam", "app", 0, "lam", "app", 1, 0)),
            ("(x \\a. a) y", ("app", "app", 0, "lam", 0, 1)),
            ("(\\a. a) \\a. a", ("app", "lam", 0, "lam", 0)),
            ("\\a. (\\b. b) \\c. a", ("lam", "app", "lam", 0, "lam", 1)),
        ])

    def test_names_that_hide_others(self):
        self.check([
            ("\\a. \\a. a", ("lam", "lam", 0)), ("\\a a. a", ("lam", "lam", 0)),
            ("\\x. x", ("lam", 0)), ("\\a. (\\a. a) a", ("lam", "app", "lam", 0, 0)),
            ("(\\x. x) x", ("app", "lam", 0, 0)), ("\\a b a. a b", ("lam",) * 3 + ("app", 0, 1)),
            ("\\a a b. a", ("lam", "lam", "lam", 1)), ("\\x. y x", ("lam", "app", 2, 0)),
            ("\\a b. (\\a a. a b) a", ("lam", "lam", "app", "lam", "lam", "app", 0, 2, 1)),
        ])

    def test_needless_parentheses(self):
        self.check([
            ("((x))", (0,)), ("(x) (y)", ("app", 0, 1)), ("(\\a. (a))", ("lam", 0)),
            ("((x y) ((a1)))", ("app", "app", 0, 1, 2)), ("((\\a. ((a) x)))", ("lam", "app", 0, 1)),
        ])

    def test_tokens_with_and_without_spaces(self):
        self.check([
            ("x y", ("app", 0, 1)), ("xy", ("app", 0, 1)), ("xa1y", ("app", "app", 0, 2, 1)),
            ("\\ab.ab", ("lam", "lam", "app", 1, 0)), ("\\ a  b . a b", ("lam", "lam", "app", 1, 0)),
            ("x(y)a1", ("app", "app", 0, 1, 2)), ("x\\a.ay", ("app", 0, "lam", "app", 0, 2)),
            ("\\b1b.b1b", ("lam", "lam", "app", 1, 0)), (" ( x ) ", (0,)),
        ])
        self.assertEqual(parse("ab1", ["a", "b1"]), ("app", 0, 1))
        self.assertEqual(answer("ab1", ["a", "b"]), 1)
        self.assertEqual(answer("a b 1", ["a", "b"]), 4)

    def test_names_of_ten_characters(self):
        name = "a123456789"
        self.assertEqual(parse(name, [name]), (0,))
        self.assertEqual(parse(f"\\{name}.{name}b", ["b"]), ("lam", "app", 0, 1))
        self.assertEqual(parse("a01", ["a1", "a01"]), (1,))
        self.assertEqual(answer("a01", ["a1"]), 0)

    def test_names_stay_as_they_are(self):
        names = ["x", "y"]
        parse("\\x. y x", names)
        answer("x (", names)
        self.assertEqual(names, ["x", "y"])

    def test_no_answer_depends_on_earlier_calls(self):
        self.assertEqual(parse("x y", ["x", "y"]), ("app", 0, 1))
        self.assertEqual(parse("x y", ["y", "x"]), ("app", 1, 0))
        self.assertEqual(answer("\\a. (", []), 5)
        self.assertEqual(answer("a", []), 0)


class ParseFaults(unittest.TestCase):
    def check(self, wanted, names=("x", "y")):
        for text, at in wanted:
            with self.subTest(text=text):
                self.assertEqual(answer(text, list(names)), at)

    def test_tokens_that_cannot_continue(self):
        self.check([
            (")", 0), (".", 0), ("x)", 1), ("x )", 2), ("x.", 1), ("()", 1), ("( )", 2), ("\\.", 1),
            ("\\.x", 1), ("\\\\", 1), ("\\(", 1), ("\\)", 1), ("\\a(", 2), ("\\a\\", 2), ("\\a)", 2),
            ("\\a..", 3), ("\\a.)", 3), ("(\\a.)", 4), ("(x))", 3), ("(\\a.a))", 6), ("\\a.a)", 4),
            ("x (.)", 3), ("\\a. a . a", 6), ("x y . (", 4), ("(\\a b", 5), ("\\a b c (", 7),
        ])

    def test_texts_that_end_too_early(self):
        self.check([
            ("", 0), (" ", 1), ("   ", 3), ("(", 1), ("( ", 2), ("(x", 2), ("(x ", 3), ("\\", 1),
            ("\\a", 2), ("\\a ", 3), ("\\a.", 3), ("\\a. ", 4), ("x \\a.", 5), ("((x)", 4),
            ("(\\a. a", 6), ("x (y (x)", 8), ("\\a b c", 6),
        ])

    def test_names_that_stand_for_nothing(self):
        self.check([
            ("z", 0), ("x z", 2), ("xz", 1), ("\\a. b", 4), ("(\\a. a) a", 8), ("x1", 0), ("x x1 y", 2),
            ("\\a b. (\\c. a) c", 14), ("x (\\a. a a1)", 9), ("\\a. (\\b. b) (a b)", 15),
        ])
        self.check([("x", 0), ("\\x. y", 4)], [])

    def test_characters_that_begin_no_token(self):
        for character in "AZ09_-+*/%$,;:'\"[]{}<>=?!@#&|~^`\n\t\r\0\x0b\x0c\xa0\xe4\xb2\u0660\u1680\u2003\u03bb\uff41":
            self.check([
                (character, 0), ("x" + " " + character, 2), ("x " + character + " y", 2),
                ("\\a. a (" + character, 7), ("\\" + character, 1), (character + "x", 0),
            ])
        for character in "AZ_\n\t\xb2\u0660\uff11":
            self.check([("x" + character, 1)])
        self.check([("x 0", 2), ("x 1x", 2), ("(1", 1), (".0", 0)])

    def test_names_of_eleven_characters(self):
        name = "a1234567890"
        self.check([
            (name, 10), ("x " + name, 12), (name + "1", 10), (name * 2, 10), ("\\" + name + ". x", 11),
            ("\\a. a" + name, 15), (name + ")", 10), (") " + name, 0), ("z " + name, 0),
        ], ["x", name, name[:10]])
        self.check([("a" + "0" * 500, 10), ("x" * 30 + "b" + "0" * 10, 40)], ["x", "b"])

    def test_the_least_index_of_several_faults(self):
        self.check([
            ("z )", 0), (") z", 0), ("x ) z $", 2), ("x $ z )", 2), ("$ x )", 0), ("x z $", 2),
            ("(z", 1), ("(x $", 3), ("\\ $", 2), ("\\a b1234567890. )", 13), ("x) (", 1),
            ("(\\a. z", 5), ("( ( z ) ", 4), ("x . \\", 2), ("\\a. a b c d", 6), ("(((", 3),
        ])

    def test_too_many_that_are_open(self):
        for many in (59, 60, 61, 62):
            nested = "(" * many + "x" + ")" * many
            chain = "\\a." * many + "a"
            wanted = (0,) if many <= 60 else 60
            self.check([(nested, wanted)])
            self.check([(chain, helper.lam_chain(many + 1) if many <= 60 else 180)])
            self.check([("(x" * many + ")" * many, helper.argument_chain(2 * many - 1) if many <= 60 else 120)])

    def test_both_open_at_the_same_time(self):
        for many in (29, 30, 31):
            text = "(\\a. " * many + "a" + ")" * many
            self.check([(text, helper.lam_chain(many + 1) if many <= 30 else 150)])
            text = "\\a. (" * many + "a" + ")" * many
            self.check([(text, helper.lam_chain(many + 1) if many <= 30 else 150)])
        self.check([
            ("(" * 59 + "\\a. a" + ")" * 59, ("lam", 0)), ("(" * 60 + "\\a. a" + ")" * 60, 60),
            ("\\a. " * 59 + "(a)", helper.lam_chain(60)), ("\\a. " * 60 + "(a)", 240),
            ("\\a. " * 60 + "a", helper.lam_chain(61)), ("\\a. " * 60 + "a \\b. a", 242),
        ])

    def test_one_backslash_counts_once(self):
        names = " ".join(f"a{n}" for n in range(200))
        self.check([
            (f"\\{names}. a199", helper.lam_chain(201)),
            ("(" * 59 + f"\\{names}. a199" + ")" * 59, helper.lam_chain(201)),
            ("(" * 59 + f"\\{names}. (a199)" + ")" * 59, 59 + len(names) + 3),
        ])

    def test_what_is_closed_is_not_open(self):
        self.check([
            (" ".join(["(x)"] * 500), helper.function_chain(999)),
            (" ".join(["(\\a. a)"] * 250), ("app",) * 249 + ("lam", 0) * 250),
            ("(" * 58 + "(x) (\\a. a) (\\a. a)" + ")" * 58, ("app", "app", 0, "lam", 0, "lam", 0)),
            ("(" * 59 + "(x) (\\a. a) (\\a. a)" + ")" * 59, 64),
            ("(" * 30 + "(" * 30 + "x" + ")" * 30 + "(" * 30 + "x" + ")" * 60, ("app", 0, 0)),
            ("(" * 30 + "(" * 30 + "x" + ")" * 30 + "(" * 31 + "x" + ")" * 61, 121),
            ("(\\a. \\b. \\c. c) " * 30 + "(" * 60 + "x" + ")" * 60, parse("(\\a b c. c)" * 30 + "x", ["x"])),
        ])

    def test_faults_near_the_61st(self):
        self.check([
            ("(" * 60 + ")", 60), ("(" * 61 + ")", 60), ("(" * 60 + "z(", 60), ("(" * 60 + "x(z", 61),
            ("(" * 30 + "." + "(" * 31, 30), ("(" * 60, 60), ("(" * 60 + "x", 61), ("(" * 60 + "$", 60),
            ("(" * 60 + "\\\\", 60), ("(" * 59 + "\\\\", 60), ("(" * 59 + "\\(", 60),
        ])

    def test_faults_come_before_too_large(self):
        long = "x " * 2000
        self.check([
            (long + ")", 4000), (long + "z", 4000), (long + "$", 4000), (long + "(", 4001),
            (long + "x1234567890", 4010), (long + "(" * 61, 4060), ("z " + long, 0), ("(" + long, 4001),
        ])


class ParseSizes(unittest.TestCase):
    def texts(self, size):
        """Return pairs of a text of a term of this size and the term."""
        odd = size if size % 2 == 1 else size - 1
        front = size - odd
        parts = (odd + 1) // 2
        opening = "\\" + "a" * front + ". " if front else ""
        lams = ("lam",) * front
        yield opening + "x " * parts, lams + helper.function_chain(odd, front)
        yield opening + "x" * parts, lams + helper.function_chain(odd, front)
        yield opening + "(x) " * parts, lams + helper.function_chain(odd, front)
        names = [f"a{n}" for n in range(size - 1)]
        yield "\\" + " ".join(names) + ". a0", helper.lam_chain(size, size - 2)
        yield "\\" + " ".join(names) + ". x", helper.lam_chain(size, size - 1)

    def test_terms_of_999_to_1001_nodes(self):
        for size in (999, 1000, 1001, 1002):
            for text, term in self.texts(size):
                self.assertEqual(len(term), size)
                if size <= 1000:
                    self.assertEqual(helper.with_little_stack(parse, text, ["x"]), term)
                else:
                    self.assertRaises(TooLarge, helper.with_little_stack, parse, text, ["x"])

    def test_faults_behind_them(self):
        for size in (999, 1000, 1001, 1002):
            for text, _ in self.texts(size):
                for fault in (")", ".", "z", "$", "A"):
                    self.assertEqual(answer(text + " " + fault, ["x"]), len(text) + 1)
                self.assertEqual(answer(text + "(", ["x"]), len(text) + 1)
                self.assertEqual(answer("(" + text, ["x"]), len(text) + 1)
                self.assertEqual(answer("x" + text + "x b1234567890", ["x"]), len(text) + 13)

    def test_large_in_several_levels(self):
        inner = "(" + "x " * 100 + ")"
        for many, size in ((5, 999), (6, 1199)):
            text = inner * many
            if size <= 1000:
                self.assertEqual(len(parse(text, ["x"])), size)
            else:
                self.assertRaises(TooLarge, parse, text, ["x"])
        nested = "(x x x " * 60 + "x" + ")" * 60
        self.assertEqual(len(parse(nested, ["x"])), 361)

    def test_greatest_variable(self):
        names = [f"a{n}" for n in range(1000003)]
        self.assertEqual(parse("a1000000", names), (1000000,))
        self.assertEqual(parse("\\x. a999999", names), ("lam", 1000000))
        self.assertRaises(TooLarge, parse, "a1000001", names)
        self.assertRaises(TooLarge, parse, "\\x. a1000000", names)
        self.assertEqual(answer("a1000001 x", names), 9)


class ParseAgainstTheGrammar(unittest.TestCase):
    def check(self, text, names):
        self.assertEqual(answer(text, names), opinion(text, names), repr(text))

    def test_all_short_texts(self):
        for size in range(6):
            for words in itertools.product(("a", "b", "\\", ".", "(", ")"), repeat=size):
                self.check("".join(words), ["b"])

    def test_short_texts_with_spaces_and_wrong_characters(self):
        for words in itertools.product(("a", "b1", " ", "\\", ".", ")", "1", "A"), repeat=4):
            self.check("".join(words), ["b1", "b", "a"])

    def test_longer_texts_that_are_changed_at_one_token(self):
        source = random.Random(5)
        for tree in helper.random_trees(7, 150, 16, 3):
            text = show(helper.flat(tree), FREE)
            self.assertEqual(opinion(text, FREE), helper.flat(tree))
            places = [at for _, at in split(text)[0]]
            at = source.choice(places)
            word = dict((at, word) for word, at in split(text)[0])[at]
            other = source.choice(["a", "x", "z7", "\\", ".", "(", ")", "$", "a1234567890"])
            for changed in (
                text[:at] + text[at + len(word):], text[:at] + " " + other + " " + text[at:],
                text[:at] + other + " " + text[at + len(word):], text[:at],
            ):
                self.check(changed, FREE)


# A second opinion on show.

def name_of(number, names):
    letters = "abcdefghijklmnopqrstuvwxyz"
    every = (letter + digits for digits in [""] + [str(n) for n in range(1, 100)] for letter in letters)
    return [name for name in itertools.islice(every, 2000) if name not in names][number]


def shown(tree, names, depth=0):
    if isinstance(tree, int):
        return name_of(depth - 1 - tree, names) if tree < depth else names[tree - depth]
    if tree[0] == "lam":
        front = "\\" + name_of(depth, names)
        body = tree[1]
        while helper.is_lam(body):
            depth += 1
            front += " " + name_of(depth, names)
            body = body[1]
        return front + ". " + shown(body, names, depth + 1)
    function, argument = (shown(part, names, depth) for part in tree[1:])
    if helper.is_lam(tree[1]):
        function = "(" + function + ")"
    if not isinstance(tree[2], int):
        argument = "(" + argument + ")"
    return function + " " + argument


class Show(unittest.TestCase):
    def test_examples(self):
        for term, names, text in (
            ((0,), ["x"], "x"), ((1,), ["x", "y7"], "y7"), (("lam", 0), [], "\\a. a"),
            (("lam", 1), ["x"], "\\a. x"), (("lam", "lam", 1), [], "\\a b. a"),
            (("lam", "lam", "lam", 0), [], "\\a b c. c"), (("app", 0, 1), ["x", "y"], "x y"),
            (("app", "app", 0, 1, 2), ["x", "y", "z"], "x y z"),
            (("app", 0, "app", 1, 2), ["x", "y", "z"], "x (y z)"),
            (("app", "lam", 0, "lam", 0), [], "(\\a. a) (\\a. a)"),
            (("app", 0, "lam", 0), ["x"], "x (\\a. a)"), (("app", "lam", 0, 0), ["x"], "(\\a. a) x"),
            (("lam", "app", 0, "lam", "app", 0, 1), [], "\\a. a (\\b. b a)"),
            (("lam", "app", "lam", "lam", "app", 0, 2, 0), [], "\\a. (\\b c. c a) a"),
            (("app", "app", "lam", 0, 0, "app", 0, 0), ["x"], "(\\a. a) x (x x)"),
            (("lam", "lam", "app", 1, "app", 1, 0), [], "\\a b. a (a b)"),
            (("app", "app", 0, "lam", 0, 0), ["x"], "x (\\a. a) x"),
        ):
            with self.subTest(text=text):
                self.assertEqual(show(term, names), text)

    def test_names_without_the_free_ones(self):
        term = ("lam", "lam", "lam", "app", "app", 2, 1, "app", 0, 3)
        for names, text in (
            (["x"], "\\a b c. a b (c x)"), (["a"], "\\b c d. b c (d a)"), (["b"], "\\a c d. a c (d b)"),
            (["d"], "\\a b c. a b (c d)"), (["x", "c", "a"], "\\b d e. b d (e x)"),
            (["a1"], "\\a b c. a b (c a1)"), (["a", "b", "c", "d"], "\\e f g. e f (g a)"),
        ):
            self.assertEqual(show(term, names), text)
        # A name that no variable has counts, too.
        self.assertEqual(show(("lam", 0), ["a", "b"]), "\\c. c")

    def test_names_beyond_26_and_52_abstractions(self):
        letters = "abcdefghijklmnopqrstuvwxyz"
        rows = list(letters) + [c + "1" for c in letters] + [c + "2" for c in letters] + ["a3"]
        for many in (25, 26, 27, 51, 52, 53, 78, 79):
            for number in (0, many // 2, many - 1):
                self.assertEqual(
                    show(("lam",) * many + (number,), []),
                    "\\" + " ".join(rows[:many]) + ". " + rows[many - 1 - number])
        self.assertEqual(show(("lam",) * 3 + (0,), list(letters[:25])), "\\z a1 b1. b1")
        self.assertEqual(show(("lam",) * 3 + (0,), list(letters)), "\\a1 b1 c1. c1")
        self.assertEqual(show(("lam",) * 3 + (0,), list(letters) + ["b1"]), "\\a1 c1 d1. d1")
        self.assertEqual(show(("lam",) * 27 + (27,), ["a1"]), "\\" + " ".join(rows[:26]) + " b1. a1")
        # Abstractions side by side have the same names.
        chain = ("lam",) * 27 + (0,)
        text = show(chain, [])
        self.assertEqual(show(("app",) + chain + chain, []), f"({text}) ({text})")

    def test_all_small_terms_and_back(self):
        for tree in SMALL:
            term = helper.flat(tree)
            text = show(term, FREE)
            self.assertEqual(text, shown(tree, FREE))
            self.assertEqual(parse(text, FREE), term)

    def test_longer_terms_and_back(self):
        for tree in helper.random_trees(3, 200, 60, 3):
            term = helper.flat(tree)
            text = show(term, FREE)
            self.assertEqual(text, shown(tree, FREE))
            if sixty_first([word for word, _ in split(text)[0]]) is None:
                self.assertEqual(parse(text, FREE), term)

    def test_terms_nested_deep(self):
        text = helper.with_little_stack(show, helper.lam_chain(1000), [])
        names = [name_of(n, []) for n in range(999)]
        self.assertEqual(names[996:], ["i38", "j38", "k38"])
        self.assertEqual(text, "\\" + " ".join(names) + ". k38")
        self.assertEqual(parse(text, []), helper.lam_chain(1000))
        text = helper.with_little_stack(show, helper.function_chain(999), ["x"])
        self.assertEqual(text, " ".join(["x"] * 500))
        text = helper.with_little_stack(show, helper.argument_chain(999), ["x"])
        self.assertEqual(text, "x (" * 498 + "x x" + ")" * 498)
        for many in (60, 61, 62, 300):
            text = show(helper.argument_chain(2 * many + 3), ["x"])
            self.assertEqual(text, "x (" * many + "x x" + ")" * many)
            self.assertEqual(answer(text, ["x"]), helper.argument_chain(2 * many + 3) if many <= 60 else 182)
        mixed = ("lam", "app", 0) * 200 + (0,)
        text = helper.with_little_stack(show, mixed, [])
        self.assertTrue(text.startswith("\\a. a (\\b. b (\\c. c (") and text.endswith(" r7" + ")" * 199), text)

    def test_free_variables_up_to_the_last_name(self):
        names = [f"x{n}" for n in range(30)]
        self.assertEqual(show((29,), names), "x29")
        self.assertEqual(show(("lam", 30), names), "\\a. x29")
        self.assertRaises(BadNames, show, (30,), names)
        self.assertRaises(BadNames, show, ("lam", 31), names)

    def test_bad_names(self):
        for name in (
            "", " ", "A", "1", "a ", " a", "ab", "a1b", "aA", "_", "a_", "x'", "\\", ".", "(", "a.", "a1234567890",
            "a\n", "\xe4", "a\xb2", "a\u0661", "\uff41", "-1", "lam",
        ):
            for names in ([name], ["x", name], [name, "x"]):
                for term in (("lam", 0), (0,)):
                    self.assertRaises(BadNames, show, term, names)
        self.assertEqual(show((0,), ["a123456789"]), "a123456789")
        self.assertEqual(show((0,), ["a000000000"]), "a000000000")

    def test_equal_names(self):
        for names in (["x", "x"], ["x", "y", "x"], ["a1", "b", "c", "b"]):
            for term in (("lam", 0), (0,)):
                self.assertRaises(BadNames, show, term, names)
        self.assertEqual(show(("app", 0, 1), ["a1", "a01"]), "a1 a01")

    def test_free_variables_without_names(self):
        for term, names in (
            ((0,), []), ((1,), ["x"]), (("lam", 1), []), (("lam", 3), ["x", "y"]), (("app", 0, 1), ["x"]),
            (("app", "lam", 0, 0), []), (("lam", "lam", 2), []), ((1000000,), ["x"]),
        ):
            self.assertRaises(BadNames, show, term, names)

    def test_names_stay_as_they_are(self):
        names = ["x", "a"]
        self.assertEqual(show(("lam", 1), names), "\\b. x")
        self.assertRaises(BadNames, show, (7,), names)
        self.assertEqual(names, ["x", "a"])
        self.assertEqual(show(("lam", 0), []), "\\a. a")

    def test_texts_give_the_same_as_building(self):
        identity = abstraction((0,))
        term = abstraction(application((0,), identity))
        self.assertEqual(parse("\\f. f \\x. x", []), term)
        self.assertEqual(show(term, []), "\\a. a (\\b. b)")
        self.assertIs(is_term(parse("\\f. f \\x. x", [])), True)


if __name__ == "__main__":
    unittest.main()
