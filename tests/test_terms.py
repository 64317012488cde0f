import itertools
import unittest

from lydite.errors import TooLarge
from lydite.terms import (
    MOST_NODES, MOST_VARIABLE, abstraction, application, free, is_term, lift, put,
)
from tests import helper

SMALL = helper.trees_up_to(5, (0, 1, 2, 3))


class Limits(unittest.TestCase):
    def test_limits(self):
        self.assertEqual(MOST_NODES, 1000)
        self.assertEqual(MOST_VARIABLE, 1000000)


class IsTerm(unittest.TestCase):
    def check_none_is_a_term(self, values):
        for value in values:
            with self.subTest(value=repr(value)[:60]):
                self.assertIs(is_term(value), False)

    def test_variables(self):
        for n in (0, 1, 2, 999, 1000, 999999, 1000000):
            self.assertIs(is_term((n,)), True)

    def test_terms_of_every_form(self):
        for term in (
            ("lam", 0), ("lam", 5), ("lam", "lam", 1), ("app", 0, 0),
            ("app", "lam", 0, 7), ("app", 3, "lam", 1000000),
            ("lam", "app", 0, "app", 1, 2), ("app", "app", 0, 1, 2),
            ("app", "app", "lam", "lam", "app", 0, 1, "lam", 0, "app", 4, 4),
        ):
            self.assertIs(is_term(term), True)

    def test_exactly_the_small_terms(self):
        nodes = ("lam", "app", 0, 3)
        known = {helper.flat(tree) for tree in helper.trees_up_to(6, (0, 3))}
        for size in range(7):
            for value in itertools.product(nodes, repeat=size):
                self.assertIs(is_term(value), value in known)

    def test_wrong_nodes(self):
        wrong = (
            -1, -1000000, 1000001, 10**30, True, False, None, "", "Lam", "lam ",
            "b", "f", "a", "0", "?", "to", "S", "apply", (), (0,), [0], [], ["lam"],
            ("lam", 0), ((),), [[None]],
        )
        for node in wrong:
            self.check_none_is_a_term([
                (node,), ("lam", node), ("app", node, 0), ("app", 0, node),
                ("lam", "app", 1, node), (node, 0), (node, 0, 0),
            ])

    def test_nodes_too_few_or_too_many(self):
        self.check_none_is_a_term([
            (), ("lam",), ("app",), ("app", 0), ("lam", "lam"), ("app", "app", 0, 0),
            ("app", 0, "lam"), (0, 0), (0, "lam"), (0, "lam", 0), ("lam", 0, 0),
            ("lam", 0, "lam", 0), ("app", 0, 0, 0), ("app", 0, 0, "app"),
            ("lam", "app", 0), (1, "app", 0, 0),
        ])

    def test_values_that_are_no_tuple(self):
        self.check_none_is_a_term([
            [], [0], ["lam", 0], ["app", 0, 0], None, True, False, 0, 1, -1,
            1000001, "lam", "app", "", "0", [("lam", 0)], [None],
        ])

    def test_tuples_around_terms(self):
        self.check_none_is_a_term([
            ((0,),), (("lam", 0),), ("lam", (0,)), ("app", (0,), (0,)), ("app", [0], [0]),
            (("app", 0, 0), 1),
        ])

    def test_values_nested_deep(self):
        deep_tuple, deep_list = (), []
        for _ in range(5000):
            deep_tuple, deep_list = (deep_tuple,), [deep_list]
        for deep in (deep_tuple, deep_list):
            for value in (deep, ("lam", deep), ("app", 0, deep)):
                self.assertIs(helper.with_little_stack(is_term, value), False)

    def test_chains_of_997_to_1003_nodes(self):
        for size in range(997, 1004):
            chains = helper.long_terms(size)
            for chain in chains:
                self.assertEqual(len(chain), size)
                self.assertIs(helper.with_little_stack(is_term, chain), size <= 1000)
                self.assertIs(is_term(chain[:-1]), False)
                self.assertIs(is_term(chain + (0,)), False)
                self.assertIs(is_term(chain[:-1] + (1000001,)), False)
                self.assertIs(is_term(list(chain)), False)

    def test_arguments_stay_as_they_are(self):
        value = ["app", [0], ("lam", [1])]
        is_term(value)
        is_term(tuple(value))
        self.assertEqual(value, ["app", [0], ("lam", [1])])


class Building(unittest.TestCase):
    def test_abstraction(self):
        self.assertEqual(abstraction((0,)), ("lam", 0))
        self.assertEqual(abstraction((1000000,)), ("lam", 1000000))
        self.assertEqual(abstraction(("app", 0, "lam", 2)), ("lam", "app", 0, "lam", 2))

    def test_application(self):
        self.assertEqual(application((0,), (1,)), ("app", 0, 1))
        self.assertEqual(
            application(("lam", 0), ("app", 1, 2)), ("app", "lam", 0, "app", 1, 2))
        self.assertEqual(application((1000000,), (1000000,)), ("app", 1000000, 1000000))

    def test_all_small_terms(self):
        for tree in SMALL:
            self.assertEqual(abstraction(helper.flat(tree)), helper.flat(("lam", tree)))
        for first, second in itertools.product(helper.trees_up_to(3, (0, 2)), repeat=2):
            self.assertEqual(
                application(helper.flat(first), helper.flat(second)),
                helper.flat(("app", first, second)))

    def test_abstraction_of_999_1000_1001_nodes(self):
        for body_size in (998, 999):
            for body in helper.long_terms(body_size):
                result = helper.with_little_stack(abstraction, body)
                self.assertEqual(result, ("lam",) + body)
                self.assertIs(is_term(result), True)
        for body_size in (1000, 1001):
            for body in helper.long_terms(body_size):
                self.assertRaises(TooLarge, abstraction, body)

    def test_application_of_999_1000_1001_nodes(self):
        for left in (1, 2, 400, 500, 997):
            for size in (999, 1000):
                function, argument = helper.lam_chain(left), helper.lam_chain(size - 1 - left)
                result = helper.with_little_stack(application, function, argument)
                self.assertEqual(result, ("app",) + function + argument)
                self.assertEqual(len(result), size)
            for size in (1001, 1002):
                function, argument = helper.lam_chain(left), helper.lam_chain(size - 1 - left)
                self.assertRaises(TooLarge, application, function, argument)
        self.assertRaises(TooLarge, application, helper.lam_chain(1000), helper.lam_chain(1000))

    def test_variables_beyond_the_greatest_one(self):
        self.assertRaises(TooLarge, abstraction, (1000001,))
        self.assertRaises(TooLarge, application, (1000001,), (0,))
        self.assertRaises(TooLarge, application, (0,), ("lam", 1000001))


class Free(unittest.TestCase):
    def test_bound_and_free_variables(self):
        for term, numbers in (
            ((0,), [0]), ((7,), [7]), (("lam", 0), []), (("lam", 1), [0]),
            (("lam", 8), [7]), (("lam", "lam", 0), []), (("lam", "lam", 1), []),
            (("lam", "lam", 2), [0]), (("app", 3, 1), [1, 3]), (("app", 2, 2), [2]),
            (("app", 10, 9), [9, 10]), (("app", 1, "lam", 1), [0, 1]),
            (("app", "lam", 1, 0), [0]), (("app", "lam", "lam", 0, 5), [5]),
            (("lam", "app", 0, "lam", "app", 0, "app", 1, 2), [0]),
            (("app", "app", 300, 20, "app", 1000, 1), [1, 20, 300, 1000]),
            ((1000000,), [1000000]), (("lam", 1000000), [999999]),
        ):
            with self.subTest(term=term):
                self.assertEqual(free(term), numbers)

    def test_all_small_terms(self):
        for tree in helper.trees_up_to(6, (0, 1, 2)):
            self.assertEqual(free(helper.flat(tree)), sorted(helper.free_of(tree)))

    def test_terms_nested_deep(self):
        for variable, numbers in ((0, []), (998, []), (999, [0]), (1000, [1]), (1000000, [999001])):
            chain = helper.lam_chain(1000, variable)
            self.assertEqual(helper.with_little_stack(free, chain), numbers)
        for chain in (helper.function_chain(999, 4), helper.argument_chain(999, 4)):
            self.assertEqual(helper.with_little_stack(free, chain), [4])

    def test_many_free_variables(self):
        numbers = list(range(500))
        self.assertEqual(free(("app",) * 499 + tuple(reversed(numbers))), numbers)

    def test_terms_somewhat_beyond_the_limits(self):
        self.assertEqual(free(helper.lam_chain(1003, 1002)), [0])
        self.assertEqual(free((1000001,)), [1000001])

    def test_a_changed_result_changes_no_later_one(self):
        for term in (("app", 2, 1), ("lam", 0)):
            before = free(term)
            wanted = list(before)
            before.append(77)
            self.assertEqual(free(term), wanted)
            self.assertIsNot(free(term), free(term))


class Lift(unittest.TestCase):
    def test_bound_and_free_variables(self):
        for term, count, result in (
            ((0,), 0, (0,)), ((0,), 3, (3,)), ((4,), 1, (5,)),
            (("lam", 0), 5, ("lam", 0)), (("lam", 1), 5, ("lam", 6)),
            (("lam", "lam", 1), 2, ("lam", "lam", 1)),
            (("lam", "lam", 2), 2, ("lam", "lam", 4)),
            (("app", 0, "lam", "app", 0, 1), 10, ("app", 10, "lam", "app", 0, 11)),
            (("app", "lam", "lam", 3, 0), 1, ("app", "lam", "lam", 4, 1)),
        ):
            with self.subTest(term=term, count=count):
                self.assertEqual(lift(term, count), result)

    def test_all_small_terms(self):
        for tree in SMALL:
            for count in (0, 1, 2, 7):
                self.assertEqual(
                    lift(helper.flat(tree), count), helper.flat(helper.lifted(tree, count)))

    def test_greatest_variable(self):
        self.assertEqual(lift((0,), 1000000), (1000000,))
        self.assertEqual(lift((999999,), 1), (1000000,))
        self.assertEqual(lift((1000000,), 0), (1000000,))
        self.assertEqual(lift(("lam", 999990), 10), ("lam", 1000000))
        self.assertEqual(lift(("lam", 0), 1000000), ("lam", 0))
        for term, count in (
            ((1,), 1000000), ((1000000,), 1), ((1000000,), 1000000),
            (("lam", 1), 1000000), (("lam", 999991), 10), (("app", "lam", 0, 1), 1000000),
            (("app", 1, "lam", 0), 1000000),
        ):
            self.assertRaises(TooLarge, lift, term, count)

    def test_a_bound_greatest_variable_does_not_count(self):
        chain = helper.lam_chain(1000, 998)
        self.assertEqual(lift(chain, 1000000), chain)

    def test_1000_and_1001_nodes(self):
        for term in helper.long_terms(1000):
            result = helper.with_little_stack(lift, term, 3)
            self.assertEqual(len(result), 1000)
            self.assertIs(is_term(result), True)
        for term in helper.long_terms(1001):
            self.assertRaises(TooLarge, lift, term, 3)

    def test_terms_nested_deep(self):
        lifted = helper.with_little_stack(lift, helper.lam_chain(1000, 999), 7)
        self.assertEqual(lifted, helper.lam_chain(1000, 1006))
        self.assertEqual(lift(helper.lam_chain(1000, 998), 7), helper.lam_chain(1000, 998))
        for chain in (helper.function_chain, helper.argument_chain):
            self.assertEqual(helper.with_little_stack(lift, chain(999, 1), 7), chain(999, 8))


class Put(unittest.TestCase):
    def test_the_example_of_point_6(self):
        self.assertEqual(put(("lam", "app", 1, 2), (5,)), ("lam", "app", 6, 1))

    def test_bound_and_free_variables(self):
        for term, value, result in (
            ((0,), (9,), (9,)), ((1,), (9,), (0,)), ((5,), ("lam", 0), (4,)),
            ((0,), ("lam", "app", 0, 1), ("lam", "app", 0, 1)),
            (("lam", 0), (9,), ("lam", 0)), (("lam", 1), (9,), ("lam", 10)),
            (("lam", 2), (9,), ("lam", 1)),
            (("lam", 1), ("lam", "app", 0, 1), ("lam", "lam", "app", 0, 2)),
            (("lam", "lam", 1), (9,), ("lam", "lam", 1)),
            (("lam", "lam", 2), (9,), ("lam", "lam", 11)),
            (("lam", "lam", 3), (9,), ("lam", "lam", 2)),
            (("app", 0, "lam", "app", 0, 1), (4,), ("app", 4, "lam", "app", 0, 5)),
            (("app", 0, 0), ("app", 1, 2), ("app", "app", 1, 2, "app", 1, 2)),
        ):
            with self.subTest(term=term, value=value):
                self.assertEqual(put(term, value), result)

    def test_all_small_terms(self):
        values = helper.trees_up_to(3, (0, 1, 2))
        for tree in SMALL:
            for value in values:
                self.assertEqual(
                    put(helper.flat(tree), helper.flat(value)),
                    helper.flat(helper.value_put(tree, value)))

    def test_lifting_and_putting_undo_each_other(self):
        for tree in SMALL:
            term = helper.flat(tree)
            self.assertEqual(put(lift(term, 1), ("lam", 3)), term)

    def test_greatest_variable(self):
        self.assertEqual(put((0,), (1000000,)), (1000000,))
        self.assertEqual(put((1000000,), (0,)), (999999,))
        self.assertEqual(put(("lam", 1), (999999,)), ("lam", 1000000))
        self.assertEqual(put(("lam", 1), ("lam", 999999)), ("lam", "lam", 1000000))
        self.assertEqual(put(("lam", "lam", 2), (999998,)), ("lam", "lam", 1000000))
        self.assertRaises(TooLarge, put, ("lam", 1), (1000000,))
        self.assertRaises(TooLarge, put, ("lam", "lam", 2), (999999,))
        self.assertRaises(TooLarge, put, ("app", 0, "lam", 1), ("lam", 1000000))

    def test_a_value_that_is_put_nowhere_makes_nothing_too_large(self):
        self.assertEqual(put(("lam", 0), (1000000,)), ("lam", 0))
        self.assertEqual(put(("lam", "app", 0, 2), helper.lam_chain(1000)), ("lam", "app", 0, 1))

    def test_bound_variables_of_the_value_are_not_lifted(self):
        chain = helper.lam_chain(999, 997)
        self.assertEqual(put(("lam", 1), chain), ("lam",) + chain)

    def test_1000_and_1001_nodes(self):
        for copies, size, extra in ((1, 990, 10), (2, 499, 1), (2, 400, 199), (40, 24, 1)):
            term = ("lam",) * extra + ("app",) * (copies - 1) + (extra,) * copies
            result_size = extra + copies - 1 + copies * size
            self.assertEqual(result_size, 1000)
            result = helper.with_little_stack(put, term, helper.lam_chain(size))
            self.assertEqual(len(result), 1000)
            self.assertIs(is_term(result), True)
            longer = ("lam",) * (extra + 1) + ("app",) * (copies - 1) + (extra + 1,) * copies
            self.assertRaises(TooLarge, put, longer, helper.lam_chain(size))
            self.assertRaises(TooLarge, put, term, helper.lam_chain(size + 1))

    def test_the_part_behind_the_last_copy_counts(self):
        term = ("app", 0) + helper.lam_chain(500)
        self.assertEqual(len(put(term, helper.lam_chain(499))), 1000)
        self.assertRaises(TooLarge, put, term, helper.lam_chain(500))

    def test_results_much_too_large(self):
        self.assertRaises(TooLarge, put, helper.function_chain(999), helper.lam_chain(1000))
        self.assertRaises(TooLarge, put, helper.argument_chain(999), helper.function_chain(999))

    def test_terms_nested_deep(self):
        for value in helper.long_terms(1000):
            self.assertEqual(helper.with_little_stack(put, (0,), value), value)
        self.assertEqual(
            helper.with_little_stack(put, helper.lam_chain(1000, 999), (1,)),
            helper.lam_chain(1000, 1000))
        self.assertEqual(put(helper.lam_chain(1000, 998), (1,)), helper.lam_chain(1000, 998))
        self.assertEqual(put(helper.lam_chain(1000, 1000), (1,)), helper.lam_chain(1000, 999))
        for chain in (helper.function_chain, helper.argument_chain):
            self.assertEqual(helper.with_little_stack(put, chain(999, 0), (6,)), chain(999, 6))

    def test_no_answer_depends_on_earlier_calls(self):
        first = put(("lam", 1), (5,))
        put(("lam", 1), (8,))
        self.assertRaises(TooLarge, put, ("lam", 1), (1000000,))
        self.assertEqual(put(("lam", 1), (5,)), first)


if __name__ == "__main__":
    unittest.main()
