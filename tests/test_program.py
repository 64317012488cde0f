"""What the document promises over the whole program (points 1 to 3)."""

import copy
import importlib
import inspect
import random
import unittest

from lydite.errors import LyditeError
from tests import helper
from tests.test_layout import INTERFACE

TRUE, FALSE, IDENTITY = ("lam", "lam", 1), ("lam", "lam", 0), ("lam", 0)
OMEGA = ("app", "lam", "app", 0, 0, "lam", "app", 0, 0)
TERM = ("app", "lam", "app", 0, 0, "app", "lam", 0, 5)
NEEDLESS = ("lam", "app", "lam", "app", 2, 0, 0)
SKK = ("app", "app", "app", "S", "K", "K", 4)
CLAIM = ("leads", TERM, ("app", 5, 5), ["a", ""])

# For each function of the interface, arguments of several calls.
CALLS = {
    "is_term": [(TERM,), ([0, [1]],), ((True,),)], "abstraction": [(TERM,), (helper.lam_chain(1000),)],
    "application": [(TERM, (3,)), (helper.lam_chain(500), helper.lam_chain(500))], "free": [(TERM,), ((3,),)],
    "lift": [(TERM, 3), ((1,), 1000000)], "put": [(("app", 0, 0), TERM), (("app", 0, 0), helper.lam_chain(600))],
    "places": [(TERM,)], "part": [(TERM, "a"), (TERM, "b")], "replace": [(TERM, "a", (3,)), (TERM, "x", (3,))],
    "comes_before": [("f", "a"), ("a", "f")], "parse": [("\\a. a x", ["x"]), ("\\a. a y", ["x"])],
    "show": [(TERM, ["a", "b", "c", "d", "e", "f"]), (TERM, [])], "redexes": [(TERM,)], "step": [(TERM, "a"), (TERM, "f")],
    "follow": [(TERM, ["a", ""]), (TERM, []), (TERM, ["f"])], "passed": [(TERM, ["a", ""]), (TERM, []), (TERM, ["f"])],
    "develop": [(TERM, 1), (TERM, 0)], "way": [(TERM,), ((3,),)], "meet": [(TERM, ["a"], [""]), (TERM, [], []), (TERM, ["f"], [])],
    "residuals": [(TERM, "", "a"), (TERM, "", "")], "is_standard": [(TERM, ["a", ""]), (TERM, [])],
    "standard": [(TERM, ["a", ""]), (TERM, []), (TERM, ["f"])], "normal": [(TERM, 3), (TERM, 2), (OMEGA, 50)],
    "first_steps": [(TERM, 2), (TERM, 0)], "needless": [(NEEDLESS,), (TERM,)], "remove": [(NEEDLESS, "bf"), (TERM, "")],
    "follow_mixed": [(NEEDLESS, [("step", "b"), ("remove", "")]), (NEEDLESS, []), (NEEDLESS, [("remove", "a")])], "shrink": [(NEEDLESS,)],
    "fully_normal": [(NEEDLESS, 5), (OMEGA, 5)], "expand": [(TERM, "a"), (TERM, "b"), (helper.lam_chain(998), "")],
    "head": [(("app", "app", 3, 4, 5),), (TERM,), ((3,),)], "with_head": [(2, 1, [(0,), TERM]), (1, 0, []), (1000, 0, [])],
    "head_normal": [(TERM, 3), (OMEGA, 9)], "known": [(TERM,), (("app", 3) + OMEGA,)], "is_below": [(("?",), TERM), (TERM, ("?",))],
    "least_above": [(("app", "?", 1), ("app", 2, "?")), ((1,), (2,))], "stretched": [(("app", 3, 4), 2), ((1000000,), 1), ((3,), 0)],
    "are_alike": [([TRUE, FALSE],), ([(3,), (3,)],)], "turns": [([TRUE, FALSE],), ([TRUE, TRUE],), ([(0,), TRUE],)],
    "projection": [(0, 2)], "tupler": [(2,), (333,)], "applied": [(TERM, [(3,), (4,)]), (TERM, [])],
    "separate": [([TRUE, FALSE],), ([TRUE, TRUE],), ([TRUE],)], "tell": [(TRUE, FALSE), (TRUE, TRUE)],
    "choose": [([TRUE, FALSE, IDENTITY],), ([TRUE],), ([],)], "is_kind": [(("to", 0, 0),), (["to"],)],
    "renamed": [([(5,), ("to", 4, 5)],), ([],), ([(0,)],)], "is_instance": [([(0,)], [("to", 0, 0)]), ([], [(0,)])],
    "joined": [((0,), ("to", 1, 2)), ((0,), ("to", 0, 0))], "principal": [(IDENTITY,), (OMEGA,), ((201,),), ((3,),)],
    "has_kinds": [(IDENTITY, [("to", 1, 1)]), (IDENTITY, [])], "number": [(3,)], "value_of": [(FALSE,), (TRUE,)],
    "list_of": [([TERM, (0,)],), ([],)], "items_of": [(FALSE,), (("lam", "lam", "app", "app", 1, 5, 0),), (TRUE,)], "names": [()],
    "named": [("leq",), ("other",)], "run": [("add", [2, 3], 50), ("add", [2, 3], 5), ("other", [], 1)],
    "is_combination": [(SKK,), (["S"],)], "abstracted": [(SKK,)], "combination_of": [(TRUE,), (helper.lam_chain(900),)],
    "term_of": [(SKK,)], "value_put": [(("app", 0, 1), SKK)], "combination_redexes": [(SKK,), (("S",),)],
    "combination_step": [(SKK, ""), (SKK, "f")], "combination_normal": [(SKK, 2), (SKK, 1)], "is_claim": [(CLAIM,), ([CLAIM],)],
    "is_shown": [(CLAIM,), (("leads", (0,), (1,), ["a"]),)], "claim_text": [(CLAIM,)], "read_claim": [("leads;0;0;2;;b",), ("leads;0;0;0",), ("x",)],
}


def all_calls():
    """Return the triples of a name, a function and arguments."""
    found = []
    for file, functions in INTERFACE.items():
        module = importlib.import_module(f"lydite.{file}")
        for name in functions:
            for arguments in CALLS[name]:
                found.append((name, getattr(module, name), arguments))
    return found


def outcome(function, arguments):
    """Return what a call returns, or the class of its error and its field."""
    try:
        return function(*arguments)
    except LyditeError as error:
        return error.__class__.__name__, getattr(error, "at", None)


def lists_in(value):
    """Return the lists and dicts in a value, itself included."""
    if isinstance(value, (list, tuple)):
        found = [value] if isinstance(value, list) else []
        return found + [inner for item in value for inner in lists_in(item)]
    return [value] if isinstance(value, dict) else []


class WholeProgram(unittest.TestCase):
    def test_each_function_is_called(self):
        names = [name for functions in INTERFACE.values() for name in functions]
        self.assertEqual(sorted(CALLS), sorted(names))
        self.assertEqual(len(names), 70)

    def test_no_function_modifies_its_arguments(self):
        for name, function, arguments in all_calls():
            with self.subTest(name=name):
                before = copy.deepcopy(arguments)
                outcome(function, arguments)
                self.assertEqual(arguments, before)

    def test_no_result_shares_a_list(self):
        for name, function, arguments in all_calls():
            with self.subTest(name=name):
                kept = [arguments, outcome(function, arguments), outcome(function, arguments)]
                found = [id(value) for part in kept for value in lists_in(part)]
                self.assertEqual(len(found), len(set(found)))

    def test_no_answer_depends_on_earlier_calls(self):
        calls = [(name, function, copy.deepcopy(arguments)) for name, function, arguments in all_calls()]
        wanted = [copy.deepcopy(outcome(function, arguments)) for _, function, arguments in calls]
        source = random.Random(131)
        for _ in range(3):
            order = list(range(len(calls)))
            source.shuffle(order)
            for at in order:
                name, function, arguments = calls[at]
                found = outcome(function, arguments)
                with self.subTest(name=name):
                    self.assertEqual(found, wanted[at])
                    self.assertIs(found.__class__, wanted[at].__class__)
                for value in lists_in(found):
                    # What a caller does with a result changes no later one.
                    value.clear()

    def test_values_of_the_kinds_that_are_listed(self):
        for name, function, arguments in all_calls():
            found = outcome(function, arguments)
            if name.startswith(("is_", "has_", "are_")) or name == "comes_before":
                self.assertIn(repr(found), ("True", "False"))
            self.check_plain(found)

    def check_plain(self, value):
        self.assertIn(value.__class__, (int, str, bool, tuple, list, type(None)))
        if isinstance(value, (tuple, list)):
            for item in value:
                self.check_plain(item)

    def test_arguments_may_be_named(self):
        for file, functions in INTERFACE.items():
            module = importlib.import_module(f"lydite.{file}")
            for name, names in functions.items():
                function = getattr(module, name)
                self.assertTrue(inspect.isfunction(function))
                arguments = CALLS[name][0]
                self.assertEqual(function(**dict(zip(names, arguments))), function(*arguments))

    def test_deep_terms_need_no_deep_calls(self):
        for term in helper.long_terms(1000) + helper.long_terms(999):
            for name, function, arguments in all_calls():
                if name in ("parse", "read_claim", "named", "run", "number", "projection", "tupler", "names"):
                    continue
                # The term in place of each term that is an argument by itself.
                deep = tuple(term if isinstance(value, tuple) and value[:1] in (("app",), ("lam",)) else value for value in arguments)
                if name == "show":
                    deep = (term, [f"x{n}" for n in range(1001)])
                try:
                    helper.with_little_stack(outcome, function, deep)
                except RecursionError:
                    self.fail(name)
                except (IndexError, TypeError, AttributeError, KeyError, ValueError):
                    # The term is no kind, no combination, no normal term ...: not specified.
                    continue


if __name__ == "__main__":
    unittest.main()
