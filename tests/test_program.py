"""Points 4, 6 and 17, and function_named: numbers, values of expressions, functions by name."""

import copy
import unittest

from helper import deep, repeats_a_list, sample_program, shared_lists, unchanged_by
from seedbed.errors import OutOfRange
from seedbed.program import fitted, function_named, value_of

MOST = 1000000000


class Fitted(unittest.TestCase):
    def test_numbers_within_the_range_stay(self):
        for number in (0, 1, -1, 5, -5, 999999999, -999999999):
            self.assertEqual(fitted(number), number)

    def test_both_ends_of_the_range_stay(self):
        self.assertEqual(fitted(1000000000), 1000000000)
        self.assertEqual(fitted(-1000000000), -1000000000)

    def test_one_beyond_each_end_goes_to_the_other_end(self):
        self.assertEqual(fitted(1000000001), -1000000000)
        self.assertEqual(fitted(-1000000001), 1000000000)

    def test_a_whole_range_further_is_the_same_number(self):
        self.assertEqual(fitted(2000000001), 0)
        self.assertEqual(fitted(-2000000001), 0)
        self.assertEqual(fitted(2000000000), -1)
        self.assertEqual(fitted(-2000000000), 1)
        self.assertEqual(fitted(2000000002), 1)
        self.assertEqual(fitted(3000000001), 1000000000)
        self.assertEqual(fitted(3000000002), -1000000000)

    def test_far_beyond_the_range(self):
        self.assertEqual(fitted(10 ** 18), -500000000)
        self.assertEqual(fitted(-10 ** 18), 500000000)
        for far in (2 ** 64, 10 ** 30, 7 ** 100, 3 ** 900):
            for number in (far, -far):
                with self.subTest(number=number):
                    result = fitted(number)
                    self.assertTrue(-MOST <= result <= MOST)
                    self.assertEqual((number - result) % (2 * MOST + 1), 0)
                    self.assertEqual(fitted(number + (2 * MOST + 1) * 10 ** 40), result)


class RecordedValues(dict):
    """A dict that keeps the names that are looked up."""

    def __init__(self, values):
        dict.__init__(self, values)
        self.names = []

    def __getitem__(self, name):
        self.names.append(name)
        return dict.__getitem__(self, name)

    def get(self, name, default=None):
        self.names.append(name)
        return dict.get(self, name, default)


class ValuesOfParts(unittest.TestCase):
    def test_numbers(self):
        for number in (0, 7, -7, MOST, -MOST):
            self.assertEqual(value_of(number, {}), number)

    def test_a_written_number_is_not_fitted(self):
        self.assertEqual(value_of(MOST + 1, {}), MOST + 1)

    def test_true_and_false(self):
        self.assertIs(value_of(True, {}), True)
        self.assertIs(value_of(False, {}), False)

    def test_variables(self):
        values = {"x": 3, "yes": True, "no": False, "x2": -4}
        self.assertEqual(value_of("x", values), 3)
        self.assertEqual(value_of("x2", values), -4)
        self.assertIs(value_of("yes", values), True)
        self.assertIs(value_of("no", values), False)

    def test_a_variable_beyond_the_range_passes_as_it_is(self):
        for number in (MOST + 1, -MOST - 1, 10 ** 40, -10 ** 40):
            self.assertEqual(value_of("x", {"x": number}), number)


class ValuesOfSigns(unittest.TestCase):
    def check(self, sign, rows):
        for first, second, expected in rows:
            with self.subTest(sign=sign, first=first, second=second):
                for expression, values in (
                    ((sign, first, second), {}),
                    ((sign, "a", "b"), {"a": first, "b": second}),
                ):
                    result = value_of(expression, values)
                    self.assertEqual(result, expected)
                    self.assertIs(type(result), type(expected))

    def test_plus(self):
        self.check("+", [
            (2, 3, 5), (2, -3, -1), (0, 0, 0), (MOST, 0, MOST), (MOST, 1, -MOST),
            (-MOST, -1, MOST), (MOST, MOST, -1), (-MOST, -MOST, 1),
        ])

    def test_minus(self):
        self.check("-", [
            (2, 3, -1), (3, 2, 1), (0, 5, -5), (-MOST, 0, -MOST), (-MOST, 1, MOST),
            (MOST, -1, -MOST), (MOST, -MOST, -1), (-MOST, MOST, 1),
        ])

    def test_times(self):
        self.check("*", [
            (2, 3, 6), (-2, 3, -6), (-2, -3, 6), (0, MOST, 0), (MOST, 2, -1), (-MOST, 2, 1),
            (MOST, MOST, -500000000), (MOST, -MOST, 500000000), (MOST, -1, -MOST),
        ])

    def test_less(self):
        self.check("<", [(2, 3, True), (3, 2, False), (2, 2, False), (-3, -2, True), (-MOST, MOST, True)])

    def test_at_most(self):
        self.check("<=", [(2, 3, True), (3, 2, False), (2, 2, True), (-2, -3, False), (MOST, -MOST, False)])

    def test_equal(self):
        self.check("=", [(2, 3, False), (3, 2, False), (2, 2, True), (-2, 2, False), (0, 0, True)])

    def test_and(self):
        self.check("and", [
            (True, True, True), (True, False, False), (False, True, False), (False, False, False),
        ])

    def test_or(self):
        self.check("or", [
            (True, True, True), (True, False, True), (False, True, True), (False, False, False),
        ])

    def test_not(self):
        self.assertIs(value_of(("not", True), {}), False)
        self.assertIs(value_of(("not", False), {}), True)
        self.assertIs(value_of(("not", "b"), {"b": False}), True)
        self.assertIs(value_of(("not", ("not", "b")), {"b": True}), True)

    def test_both_parts_of_and_and_or_are_evaluated(self):
        for sign in ("and", "or"):
            for first in (True, False):
                values = RecordedValues({"a": first, "b": True})
                value_of((sign, "a", "b"), values)
                self.assertEqual(sorted(values.names), ["a", "b"])


class ValuesOfNestedExpressions(unittest.TestCase):
    def test_parts_are_expressions(self):
        values = {"x": 10, "y": 4}
        self.assertEqual(value_of(("+", ("*", "x", 2), ("-", "y", "x")), values), 14)
        self.assertIs(value_of(("and", ("<", "y", "x"), ("not", ("=", "x", 9))), values), True)
        self.assertIs(value_of(("or", ("<=", "x", "y"), ("=", ("+", "y", 6), "x")), values), True)

    def test_up_to_the_depth_8(self):
        for depth in range(1, 9):
            with self.subTest(depth=depth):
                self.assertEqual(value_of(deep("+", depth, 1, 1), {}), depth)
                self.assertEqual(value_of(deep("-", depth, "x", "y"), {"x": 0, "y": 3}), -3 * (depth - 1))
                self.assertEqual(value_of(deep("*", depth, 1, 2), {}), 2 ** (depth - 1))
                self.assertIs(value_of(deep("or", depth, True, False), {}), True)

    def test_the_depth_8_at_the_second_part(self):
        expression = 1
        for _ in range(7):
            expression = ("-", 10, expression)
        self.assertEqual(value_of(expression, {}), 9)

    def test_the_depth_8_of_not(self):
        expression = "b"
        for _ in range(7):
            expression = ("not", expression)
        self.assertIs(value_of(expression, {"b": True}), False)

    def test_a_full_tree_of_the_depth_8(self):
        expression = "x"
        for _ in range(7):
            expression = ("+", expression, expression)
        self.assertEqual(value_of(expression, {"x": -3}), -384)


class FittingWithinExpressions(unittest.TestCase):
    def test_results_are_fitted_before_they_are_compared(self):
        self.assertIs(value_of(("<", ("+", MOST, 1), 0), {}), True)
        self.assertIs(value_of(("<=", 0, ("-", -MOST, 1)), {}), True)
        self.assertIs(value_of(("=", ("*", MOST, 2), -1), {}), True)

    def test_results_are_fitted_at_each_sign(self):
        self.assertEqual(value_of(("-", ("+", MOST, 1), 1), {}), MOST)
        self.assertEqual(value_of(("*", ("+", MOST, 1), ("-", -MOST, 1)), {}), 500000000)
        self.assertIs(value_of(("=", ("+", ("+", MOST, MOST), 1), 0), {}), True)

    def test_variables_beyond_the_range_are_compared_as_they_are(self):
        values = {"x": MOST + 1, "y": -MOST}
        self.assertIs(value_of(("=", "x", "y"), values), False)
        self.assertIs(value_of(("<", "y", "x"), values), True)
        self.assertIs(value_of(("<=", "x", MOST), values), False)
        self.assertIs(value_of(("=", "x", MOST + 1), values), True)

    def test_variables_beyond_the_range_are_fitted_by_arithmetic(self):
        values = {"x": MOST + 1, "far": 10 ** 18, "low": -10 ** 18}
        self.assertEqual(value_of(("+", "x", 0), values), -MOST)
        self.assertEqual(value_of(("-", "x", 0), values), -MOST)
        self.assertEqual(value_of(("*", "far", 1), values), -500000000)
        self.assertEqual(value_of(("-", "low", 0), values), 500000000)
        self.assertEqual(value_of(("-", "far", "far"), values), 0)


class ValuesStayAsTheyWere(unittest.TestCase):
    def test_values_are_not_changed(self):
        values = {"x": MOST + 5, "b": True}
        before = dict(values)
        value_of(("and", "b", ("<", ("*", "x", "x"), ("+", "x", 1))), values)
        self.assertEqual(values, before)
        self.assertEqual(list(values), ["x", "b"])

    def test_the_expression_is_not_changed(self):
        expression = ("and", ("not", "b"), ("=", ("-", "x", 1), ("*", "x", -1)))
        self.assertTrue(unchanged_by(lambda part: value_of(part, {"x": 1, "b": False}), expression))

    def test_a_later_change_of_the_values_is_seen_by_later_calls_only(self):
        values = {"x": 1}
        first = value_of(("+", "x", 1), values)
        values["x"] = 8
        self.assertEqual((first, value_of(("+", "x", 1), values)), (2, 9))


class FunctionNamed(unittest.TestCase):
    def test_each_name_of_a_program(self):
        program = sample_program()
        self.assertEqual([function[0] for function in program], ["work", "quiet", "main"])
        for function in sample_program():
            result = function_named(program, function[0])
            self.assertIsInstance(result, tuple)
            self.assertEqual(repr(result), repr(function))

    def test_names_that_no_function_has(self):
        program = sample_program()
        names = ["", "mai", "mains", "Main", "main ", "none", "func", "x", "t", "a", "end", "work1", "w"]
        for name in names:
            with self.subTest(name=name):
                with self.assertRaises(OutOfRange):
                    function_named(program, name)

    def test_a_program_with_one_function(self):
        program = [("main", [], None, [])]
        self.assertEqual(function_named(program, "main"), ("main", [], None, []))
        self.assertRaises(OutOfRange, function_named, program, "work")

    def test_a_function_with_the_name_of_a_variable(self):
        program = [("x", [("x", "int")], None, []), ("main", [], None, [("let", "main", 1)])]
        self.assertEqual(function_named(program, "x"), ("x", [("x", "int")], None, []))
        self.assertEqual(function_named(program, "main"), program[1])

    def test_the_program_stays_as_it_was(self):
        program = sample_program()
        self.assertTrue(unchanged_by(lambda passed: function_named(passed, "main"), program))


class FunctionsAreNew(unittest.TestCase):
    def test_no_list_is_that_of_the_program_or_of_an_earlier_result(self):
        program = sample_program()
        for name in ("work", "quiet", "main"):
            first = function_named(program, name)
            second = function_named(program, name)
            self.assertFalse(shared_lists(first, program))
            self.assertFalse(shared_lists(first, second))

    def test_changes_of_the_result_do_not_change_the_program(self):
        program = sample_program()
        params, body = function_named(program, "work")[1], function_named(program, "main")[3]
        params.append(("e", "int"))
        body[5][3].clear()
        body[10][1].pop()
        body.pop()
        self.assertEqual(repr(program), repr(sample_program()))
        self.assertEqual(repr(function_named(program, "main")), repr(sample_program()[2]))

    def test_later_changes_of_the_program_do_not_change_the_result(self):
        program = sample_program()
        result = function_named(program, "main")
        program[2][3][5][3].clear()
        program[2][3].clear()
        program.clear()
        self.assertEqual(repr(result), repr(sample_program()[2]))

    def test_a_list_that_occurs_twice_in_the_program_is_two_lists_in_the_result(self):
        body = [("emit", 1)]
        program = [("main", [], None, [("if", True, body, body), ("shield", body)])]
        self.assertTrue(repeats_a_list(program))
        before = copy.deepcopy(program)
        result = function_named(program, "main")
        self.assertEqual(result, before[0])
        self.assertFalse(repeats_a_list(result))
        result[3][0][2].append(("emit", 2))
        self.assertEqual(result[3][0][3], [("emit", 1)])
        self.assertEqual(program, before)


if __name__ == "__main__":
    unittest.main()
