"""Points 8, 9 and 13: kinds_in, the params and variables of a function in the order in which they are written."""

import unittest

from helper import ProgramMaker, main_with, repeats_a_list, sample_program, unchanged_by
from seedbed.checks import kinds_in
from seedbed.errors import OutOfRange
from seedbed.notation import format_program

FUNCTIONS = [
    ("give", [("a", "int")], "int", [("return", "a")]),
    ("quiet", [], None, []),
]


class Kinds(unittest.TestCase):
    def check(self, body, *expected):
        program = [*FUNCTIONS, *main_with(body)]
        self.assertEqual(kinds_in(program, "main"), list(expected))
        params = [("a1", "task"), ("b1", "bool"), ("c1", "channel"), ("d1", "int")]
        program = [*FUNCTIONS, *main_with([]), ("f", params, None, body)]
        self.assertEqual(kinds_in(program, "f"), [*params, *expected])

    def test_no_params_and_no_variables(self):
        self.check([])
        self.check([("yield",), ("emit", 1), ("shield", [("scope", 1, True, [])])])

    def test_params_of_all_kinds_in_their_order(self):
        params = [("z", "int"), ("y", "bool"), ("x", "channel"), ("w", "task")]
        self.assertEqual(kinds_in([("f", params, None, []), *main_with([])], "f"), params)
        self.assertEqual(kinds_in([("f", params[::-1], None, []), *main_with([])], "f"), params[::-1])
        self.assertEqual(kinds_in(FUNCTIONS, "give"), [("a", "int")])

    def test_let_of_all_kinds(self):
        self.check(
            [
                ("let", "x", 1), ("let", "y", ("+", "x", 1)), ("let", "b", True), ("let", "n", ("not", "b")),
                ("let", "less", ("<", "x", "y")), ("let", "same", ("=", 1, 2)), ("let", "most", ("<=", 1, 2)),
                ("let", "both", ("and", "b", "n")), ("let", "one", ("or", "b", "n")), ("let", "p", ("*", 1, 2)),
                ("let", "m", ("-", 1, 2)), ("open", "c", 1), ("let", "c2", "c"),
                ("scope", None, False, [("spawn", "t", "quiet", []), ("let", "t2", "t")]), ("let", "copy", "b"),
            ],
            ("x", "int"), ("y", "int"), ("b", "bool"), ("n", "bool"), ("less", "bool"), ("same", "bool"),
            ("most", "bool"), ("both", "bool"), ("one", "bool"), ("p", "int"), ("m", "int"), ("c", "channel"),
            ("c2", "channel"), ("t", "task"), ("t2", "task"), ("copy", "bool"),
        )

    def test_each_other_statement_that_makes_a_variable(self):
        self.check(
            [
                ("open", "c", 1), ("receive", "r", "c"), ("now", "n"), ("call", "v", "give", [1]),
                ("scope", None, False, [("spawn", "t", "quiet", []), ("await", "w", "t")]),
                ("try", [], "e", []), ("select", [("receive", "s", "c", [])], None),
            ],
            ("c", "channel"), ("r", "int"), ("n", "int"), ("v", "int"), ("t", "task"), ("w", "int"), ("e", "int"),
            ("s", "int"),
        )

    def test_none_and_set_make_no_variable(self):
        self.check(
            [
                ("let", "x", 1), ("set", "x", 2), ("call", None, "give", [1]), ("call", None, "quiet", []),
                ("scope", None, False, [("spawn", "t", "quiet", []), ("await", None, "t"), ("set", "t", "t")]),
            ],
            ("x", "int"), ("t", "task"),
        )

    def test_the_variable_of_a_try_comes_between_its_bodies(self):
        self.check(
            [("try", [("let", "a", 1), ("now", "b")], "e", [("let", "c", True), ("let", "d", "e")]), ("now", "f")],
            ("a", "int"), ("b", "int"), ("e", "int"), ("c", "bool"), ("d", "int"), ("f", "int"),
        )
        self.check(
            [("try", [("try", [("now", "a")], "b", [("now", "c")])], "d", [("try", [("now", "f")], "g", [])])],
            ("a", "int"), ("b", "int"), ("c", "int"), ("d", "int"), ("f", "int"), ("g", "int"),
        )

    def test_the_arms_of_a_select_in_their_order(self):
        self.check(
            [
                ("open", "c", 1),
                ("select", [
                    ("after", 1, [("now", "a")]),
                    ("receive", "b", "c", [("let", "d", True), ("now", "e")]),
                    ("send", "c", 1, [("now", "f")]),
                    ("receive", "g", "c", []),
                ], [("open", "h", 1)]),
                ("now", "i"),
            ],
            ("c", "channel"), ("a", "int"), ("b", "int"), ("d", "bool"), ("e", "int"), ("f", "int"), ("g", "int"),
            ("h", "channel"), ("i", "int"),
        )

    def test_bodies_in_their_order(self):
        self.check(
            [
                ("if", True, [("now", "a")], [("now", "b")]), ("while", True, [("now", "c")]),
                ("finally", [("now", "d")], [("now", "e")]), ("scope", 1, True, [("now", "f")]),
                ("shield", [("now", "g")]), ("using", 1, [("now", "h")]), ("now", "i"),
            ],
            *[(name, "int") for name in "abcdefghi"],
        )

    def test_variables_of_the_same_name(self):
        self.check(
            [
                ("if", True, [("let", "x", 1)], [("let", "x", True)]), ("shield", [("open", "x", 1)]),
                ("try", [("let", "x", False)], "x", []), ("open", "c", 1),
                ("select", [("receive", "x", "c", []), ("receive", "x", "c", [])], [("let", "x", "c")]),
                ("let", "x", True),
            ],
            ("x", "int"), ("x", "bool"), ("x", "channel"), ("x", "bool"), ("x", "int"), ("c", "channel"), ("x", "int"),
            ("x", "int"), ("x", "channel"), ("x", "bool"),
        )

    def test_the_kind_is_that_of_the_variable_that_is_visible(self):
        self.check(
            [
                ("if", True, [("let", "x", 1), ("let", "y", "x")], [("let", "x", True), ("let", "y", "x")]),
                ("shield", [("open", "x", 1), ("let", "y", "x")]),
            ],
            ("x", "int"), ("y", "int"), ("x", "bool"), ("y", "bool"), ("x", "channel"), ("y", "channel"),
        )

    def test_a_function_without_a_way_to_its_end(self):
        self.check([("return", None), ("let", "x", 1), ("throw", 1), ("now", "y")], ("x", "int"), ("y", "int"))

    def test_a_variable_with_the_name_of_a_function(self):
        self.check([("let", "main", True), ("let", "quiet", 1)], ("main", "bool"), ("quiet", "int"))


class Programs(unittest.TestCase):
    def test_each_function_by_its_name(self):
        program = sample_program()
        self.assertEqual(kinds_in(program, "work"), [("a", "int"), ("b", "bool"), ("c", "channel"), ("d", "task")])
        self.assertEqual(kinds_in(program, "quiet"), [])
        self.assertEqual([name for name, _ in kinds_in(program, "main")], list("xctruvneyz"))

    def test_the_order_is_that_of_the_written_form(self):
        for seed in range(60):
            program = ProgramMaker(seed).program()
            for index, function in enumerate(program):
                self.assertEqual(
                    [name for name, _ in kinds_in(program, function[0])], written_variables(program, index)
                )

    def test_unknown_functions(self):
        for name in ("", "mai", "mains", "Main", "x", "t", "a", "none", "func", "int", "work "):
            with self.assertRaises(OutOfRange):
                kinds_in(sample_program(), name)

    def test_tuples_in_a_new_list(self):
        program = sample_program()
        first, second = kinds_in(program, "work"), kinds_in(program, "work")
        self.assertIs(type(first), list)
        self.assertTrue(all(type(pair) is tuple for pair in first))
        self.assertFalse(repeats_a_list([first, second, program]))
        first.clear()
        self.assertEqual(kinds_in(program, "work"), second)
        self.assertEqual(program, sample_program())

    def test_the_program_stays(self):
        for name in ("work", "quiet", "main"):
            self.assertTrue(unchanged_by(lambda program, name=name: kinds_in(program, name), sample_program()))


def written_variables(program, index):
    """Return the names that the lines of a function make, in their order."""
    names = []
    for line in format_program([program[index]]).splitlines():
        words = line.split()
        if words[0] == "func":
            names.extend(words[3::2])
        elif words[0] in ("let", "spawn", "await", "open", "receive", "now", "call", "catch") and words[1] != "none":
            names.append(words[1])
    return names


if __name__ == "__main__":
    unittest.main()
