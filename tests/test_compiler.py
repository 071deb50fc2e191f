"""Point 22: compiling valid programs to valid codes that make the same turns."""

import copy
import unittest

from helper import (
    ODD_VALUES, WRAPS, CodeRun, ProgramMaker, deep, main_with, nested_lists, program_of_length, repeats_a_list,
    sample_program, shared_lists, unchanged_by,
)
from seedbed.checks import check_program
from seedbed.code import check_code
from seedbed.compiler import compile_program
from seedbed.direct import Direct, turns_of
from seedbed.errors import BadProgram

MOST = 1000000000
NONE = ("value", None)
FUNCTIONS = [
    ("give", [("n", "int")], "int", [("emit", "n"), ("return", ("*", "n", 2))]),
    ("quiet", [], None, [("yield",)]),
    ("failing", [], None, [("throw", 5)]),
    ("four", [("a", "int"), ("b", "bool"), ("c", "channel"), ("d", "task")], "int", [
        ("if", "b", [("close", "c")], [("cancel", "d")]), ("return", "a"),
    ]),
    ("ends", [], "int", [("scope", None, False, [("throw", 3)])]),
]


class Compiled(unittest.TestCase):
    def compiled(self, program):
        """The code of a valid program is valid, and keeps all bounds."""
        check_program(program)
        code = compile_program(program)
        check_code(code)
        self.assertEqual([function[:2] for function in code], [(name, len(params)) for name, params, _, _ in program])
        self.assertFalse(repeats_a_list(code))
        self.assertFalse(shared_lists(code, program))
        return code

    def same_turns(self, program, name, args, replies):
        code = self.compiled(program)
        direct = turns_of(Direct(program, name, args), replies)
        self.assertEqual(repr(turns_of(CodeRun(code, name, args), replies)), repr(direct))
        return direct

    def same_for_all_replies(self, body, many=9):
        """The turns are the same if one of the replies is no value, and if two of them are none."""
        program = [*FUNCTIONS, *main_with(body)]
        code = self.compiled(program)
        for first in range(many):
            for second in range(many):
                for other in (("throw", 77), ("cancelled",)):
                    for last in (("throw", 88), ("cancelled",), ("value", 2)):
                        self.same_by_rule(program, code, {first: other, second: last})

    def same_by_rule(self, program, code, special):
        """Compare the turns for replies that are values but for the special ones."""
        direct, run = Direct(program, "main", []), CodeRun(code, "main", [])
        turn, at = direct.resume(), 0
        self.assertEqual(repr(run.resume()), repr(turn))
        while turn[0] == "ask" and at < 40:
            reply = special.get(at, ("value", at))
            if turn[1][0] == "select" and reply[0] == "value":
                many = len(turn[1][1]) + turn[1][2]
                reply = ("value", (at % many, at))
            turn, at = direct.resume(reply), at + 1
            self.assertEqual(repr(run.resume(reply)), repr(turn))


class ValidCodes(Compiled):
    def test_the_functions_in_their_order(self):
        code = self.compiled(sample_program())
        self.assertEqual([function[0] for function in code], ["work", "quiet", "main"])
        self.assertEqual([function[1] for function in code], [4, 0, 0])
        self.assertEqual(self.compiled(main_with([]))[0][:2], ("main", 0))
        program = [*main_with([]), *[(f"f{k}", [("a", "int")] * (k > 0), None, []) for k in range(7)]]
        self.compiled(program)

    def test_lists_and_tuples(self):
        code = compile_program(sample_program())
        self.assertIs(type(code), list)
        for function in code:
            self.assertIs(type(function), tuple)
            self.assertIs(type(function[3]), list)
            self.assertIs(type(function[4]), list)
            for part in [*function[3], *function[4]]:
                self.assertIs(type(part), tuple)

    def test_the_same_code_again_in_new_lists(self):
        program = sample_program()
        first, second = compile_program(program), compile_program(program)
        self.assertEqual(first, second)
        self.assertFalse(shared_lists(first, second))
        for part in nested_lists(first):
            part.clear()
        self.assertEqual(compile_program(program), second)

    def test_the_program_stays(self):
        self.assertTrue(unchanged_by(compile_program, sample_program()))
        for seed in range(20):
            self.assertTrue(unchanged_by(compile_program, ProgramMaker(seed).program()))

    def test_a_list_at_two_places_of_the_program(self):
        body = [("select", [("after", 1, [("yield",)])], None)]
        program = main_with([("if", True, body, body), ("finally", body, body)])
        before = copy.deepcopy(program)
        code = self.compiled(program)
        self.assertEqual(program, before)
        program[0][3].clear()
        body.clear()
        self.assertEqual(code, compile_program(before))

    def test_programs_that_are_not_valid(self):
        for value in ODD_VALUES:
            self.assertRaises(BadProgram, compile_program, value)
        for body in (
            [("emit", "x")], [("emit", True)], [("spawn", "t", "main", [])], [("call", None, "main", [])],
            [("return", 1)],
            [("let", "x", 1), ("let", "x", 1)], [("yield",)] * 161, [("emit", deep("+", 9, 1, 1))],
            [("emit", MOST + 1)],
        ):
            self.assertRaises(BadProgram, compile_program, main_with(body))
        self.assertRaises(BadProgram, compile_program, [("f", [], "int", []), *main_with([])])
        self.assertRaises(BadProgram, compile_program, program_of_length(20001))


class AtTheBounds(Compiled):
    def test_the_written_form(self):
        self.compiled(program_of_length(20000))

    def test_functions_and_params(self):
        params = [("a", "int"), ("b", "bool"), ("c", "channel"), ("d", "task")]
        self.compiled([*[(f"f{k}", params, "int", [("return", "a")]) for k in range(7)], *main_with([])])

    def test_expressions(self):
        for make in (lambda e: ("+", e, 1), lambda e: ("+", 1, e), lambda e: ("+", e, e)):
            expression = "x"
            for _ in range(7):
                expression = make(expression)
            body = [("let", "x", 3), ("emit", expression), ("throw", expression)]
            self.same_turns(main_with(body), "main", [], [NONE])
        full = 1
        for _ in range(7):
            full = ("*", full, full)
        program = [
            ("f", [(name, "int") for name in "abcd"], "int", [("return", "d")]),
            *main_with([("call", "x", "f", [full, full, full, ("+", full[1], ("-", 1, 2))]), ("emit", "x")]),
        ]
        self.assertEqual(self.same_turns(program, "main", [], [NONE])[0], ("ask", ("emit", 0)))

    def test_arms_with_the_greatest_expressions(self):
        half = 1
        for _ in range(6):
            half = ("+", half, half)
        arms = [("send", "c", half, [("emit", k)]) for k in range(4)]
        self.same_turns(main_with([("open", "c", 1), ("select", arms, [])]), "main", [],
            [NONE, ("value", (3, None)), NONE])

    def test_160_statements_of_each_kind(self):
        for statement in (
            ("using", 1, []), ("shield", []), ("finally", [], []), ("scope", 1, True, []), ("if", True, [], []),
            ("while", False, []), ("try", [], "e", []), ("emit", 1), ("return", None), ("throw", 1), ("yield",),
            ("sleep", 1),
        ):
            self.compiled(main_with([statement] * 160))
        give = ("give", [], "int", [("return", 1)])
        for word, *parts in (("let", 1), ("now",), ("open", 1), ("call", "give", [])):
            code = self.compiled([give, *main_with([(word, f"v{k}", *parts) for k in range(159)])])
            self.assertLessEqual(code[1][2], 400)
        for statement in (("try", [("yield",)], "e", []), ("finally", [("yield",)], []), ("using", 1, [("yield",)]),
                          ("scope", 1, False, [("yield",)]), ("shield", [("yield",)]), ("finally", [], [("yield",)])):
            self.compiled(main_with([statement] * 80))
        for many in range(1, 5):
            select = ("select", [("after", 1, [])] * many, [])
            self.compiled(main_with([select] * (160 // (many + 1))))
        receiving = ("select", [("receive", "x", "c", [])] * 4, None)
        code = self.compiled(main_with([("open", "c", 1), *[receiving] * 31]))
        self.assertLessEqual(code[0][2], 400)

    def test_the_most_guards(self):
        # 53 times three statements with bodies that hold another statement.
        one = ("finally", [("finally", [("yield",)], [])], [])
        self.compiled(main_with([one] * 53))
        body = [("yield",)]
        for _ in range(7):
            body = [("finally", body, [("yield",)])]
        self.compiled(main_with(body * 10))
        self.compiled(main_with([("finally", [("yield",)], [("yield",)])] * 53))

    def test_bodies_8_deep(self):
        for word, wrap in WRAPS.items():
            body = [("yield",)]
            for level in range(7):
                body = [("yield",), ("try", [("throw", 1)], f"e{level}", body) if word == "catch" else wrap(body)]
            self.compiled(main_with(body))

    def test_many_pending_completions(self):
        body = [("emit", 8)]
        for level in range(7):
            body = [("finally", [("throw", level)], [("emit", level), *body])]
        turns = self.same_turns(main_with(body), "main", [], [NONE] * 30)
        self.assertEqual(turns[-1], ("done", ("throw", 0)))
        for at in range(25):
            replies = [NONE] * at + [("throw", 99)] + [NONE] * 25
            self.same_turns(main_with(body), "main", [], replies)


class SameTurns(Compiled):
    def test_plain_statements(self):
        self.same_for_all_replies([
            ("let", "x", 4), ("emit", "x"), ("set", "x", ("+", "x", 1)), ("sleep", "x"), ("now", "n"),
            ("emit", ("-", "n", "x")),
            ("open", "c", 2), ("send", "c", "x"), ("receive", "y", "c"), ("emit", "y"), ("close", "c"), ("yield",),
        ], 11)

    def test_each_sign(self):
        for sign in ("+", "-", "*"):
            for first, second in ((2, 3), (-7, 5), (MOST, MOST), (MOST, -MOST), (0, 0)):
                turns = self.same_turns(main_with([("emit", (sign, first, second))]), "main", [], [NONE])
                self.assertEqual(turns[-1], ("done", ("return", None)))
        for sign in ("<", "<=", "="):
            for first, second in ((2, 3), (3, 2), (2, 2)):
                body = [("if", (sign, first, second), [("emit", 1)], [("emit", 0)])]
                self.same_turns(main_with(body), "main", [], [NONE])
        for sign in ("and", "or"):
            for first in (True, False):
                for second in (True, False):
                    body = [("if", (sign, first, ("not", second)), [("emit", 1)], [("emit", 0)])]
                    self.same_turns(main_with(body), "main", [], [NONE])

    def test_none_as_a_value_is_0(self):
        body = [("now", "n"), ("emit", "n"), ("open", "c", 1), ("receive", "x", "c"), ("emit", "x"),
                ("select", [("receive", "y", "c", [("emit", "y")])], None), ("call", "z", "ends", []), ("emit", "z")]
        replies = [NONE] * 5 + [("value", (0, None))] + [NONE] * 4
        turns = self.same_turns([*FUNCTIONS, *main_with(body)], "main", [], replies)
        self.assertEqual([turn[1][1] for turn in turns if turn[1][0] == "emit"], [0, 0, 0, 0])

    def test_a_variable_of_a_loop(self):
        body = [("let", "k", 0), ("while", ("<", "k", 3),
            [("let", "x", ("*", "k", 2)), ("emit", "x"), ("set", "k", ("+", "k", 1))])]
        self.same_for_all_replies(body, 7)

    def test_variables_of_the_same_name(self):
        self.same_for_all_replies([
            ("if", True, [("let", "x", 1), ("emit", "x")], []), ("shield", [("let", "x", 2), ("emit", "x")]),
            ("let", "x", 3),
            ("try", [("throw", "x")], "y", [("emit", "y")]), ("let", "y", 4), ("emit", ("+", "x", "y")),
        ], 7)

    def test_tries(self):
        self.same_for_all_replies([
            ("try", [("yield",), ("throw", 4)], "e", [("emit", "e"), ("throw", ("+", "e", 1))]), ("emit", 9),
        ])
        self.same_for_all_replies([
            ("try", [("try", [("yield",)], "e", [("emit", "e"), ("throw", 6)]), ("yield",)], "f", [("emit", "f")]),
            ("emit", 9),
        ])
        self.same_for_all_replies([("try", [], "e", [("emit", "e")]), ("try", [("try", [], "f", [])], "e", []),
            ("yield",)], 3)
        self.same_for_all_replies([("try", [("let", "x", 1)], "e", [("emit", "e")]), ("yield",)], 3)

    def test_cleanups(self):
        for body in ([], [("yield",)], [("throw", 4)], [("return", None)], [("yield",), ("return", None)]):
            for cleanup in ([], [("yield",)], [("throw", 6)], [("return", None)], [("yield",), ("throw", 7)]):
                self.same_for_all_replies([("finally", body, cleanup), ("emit", 9)], 6)
                self.same_for_all_replies([("try", [("finally", body, cleanup)], "e", [("emit", "e")]), ("emit", 9)], 5)

    def test_cleanups_within_each_other(self):
        inner = ("finally", [("emit", 1)], [("emit", 2)])
        self.same_for_all_replies([("finally", [inner], [inner]), ("emit", 9)], 12)
        self.same_for_all_replies([("finally", [("throw", 3)],
            [("try", [inner, ("throw", 4)], "e", [("emit", "e")])])], 10)
        self.same_for_all_replies([("while", True, [("finally", [("emit", 1)], [("emit", 2)])])], 11)

    def test_scopes(self):
        for body in ([], [("yield",)], [("throw", 4)], [("return", None)]):
            for time in (None, 5):
                self.same_for_all_replies([("scope", time, True, body), ("emit", 9)], 5)
                self.same_for_all_replies([("scope", 1, False, [("scope", time, False, body)]), ("emit", 9)], 7)
                self.same_for_all_replies([("try", [("scope", time, False, body)], "e", [("emit", "e")]),
                    ("emit", 9)], 5)
                self.same_for_all_replies([("finally", [("scope", time, False, body)], [("emit", 8)]), ("emit", 9)], 8)

    def test_shields_and_resources(self):
        for body in ([], [("yield",)], [("throw", 4)], [("return", None)]):
            self.same_for_all_replies([("shield", body), ("emit", 9)], 5)
            self.same_for_all_replies([("using", 3, body), ("emit", 9)], 5)
            self.same_for_all_replies([("let", "x", 1), ("using", "x", [("set", "x", 2), *body]), ("emit", "x")], 5)
            self.same_for_all_replies([("using", 1, [("shield", [("using", 2, body)])]), ("emit", 9)], 8)
            self.same_for_all_replies([("scope", None, False, [("using", 1, body)]), ("emit", 9)], 7)

    def test_selects(self):
        arms = [("send", "c", ("+", 1, 2), [("emit", 1)]), ("receive", "x", "c", [("emit", "x")]), ("after", 4, [])]
        for many in range(1, 4):
            for default in (None, [], [("emit", 7)]):
                self.same_for_all_replies([("open", "c", 1), ("select", arms[:many], default), ("emit", 9)], 5)
                self.same_for_all_replies([("open", "c", 1), ("select", arms[::-1][:many], default), ("emit", 9)], 5)
        for index in range(5):
            body = [("open", "c", 1), ("select", [arms[1], arms[0], arms[2], arms[1]], [("emit", 7)]), ("emit", 9)]
            self.same_turns(main_with(body), "main", [], [NONE, ("value", (index, 31)), NONE, NONE])
        body = [("finally", [("select", [("after", 1, [("throw", 2)])], None)], [("select", [("after", 1, [])], [])])]
        self.same_for_all_replies(body, 6)

    def test_calls_and_spawns(self):
        self.same_for_all_replies([
            ("call", "x", "give", [("+", 3, 4)]), ("emit", "x"), ("call", None, "quiet", []),
            ("try", [("call", None, "failing", [])], "e", [("emit", "e")]), ("call", "y", "ends", []), ("emit", "y"),
        ])
        self.same_for_all_replies([
            ("open", "c", 1), ("scope", None, False, [
                ("spawn", "t", "quiet", []), ("spawn", "u", "four", [1, ("not", False), "c", "t"]), ("await", "x", "u"),
                ("call", "y", "four", ["x", False, "c", "u"]), ("emit", "y"), ("await", None, "t"), ("cancel", "u"),
            ]),
        ], 10)
        self.same_for_all_replies([("finally", [("call", "x", "give", [1])], [("call", "x", "give", [2])]),
            ("emit", 9)], 7)

    def test_functions_with_a_result(self):
        bodies = [
            [("return", ("+", "x", 1))],
            [("throw", "x")],
            [("if", ("<", "x", 3), [("return", 1)], [("return", 2)])],
            [("finally", [("return", "x")], [("set", "x", 50)])],
            [("try", [("throw", "x")], "e", [("return", "e")])],
            [("scope", None, True, [("return", "x")])],
            [("scope", None, True, [("throw", "x")])],
            [("shield", [("using", 1, [("return", "x")])])],
            [("finally", [("return", 1)], [("return", 2)])],
            [("while", True, [("return", 7)]), ("throw", 1)],
        ]
        for body in bodies:
            program = [("f", [("x", "int")], "int", body), *main_with([("call", "v", "f", [5]), ("emit", "v")])]
            for value in (-2, 5, 10 ** 12):
                for many in range(6):
                    for last in (NONE, ("throw", 8), ("cancelled",)):
                        self.same_turns(program, "f", [value], [NONE] * many + [last])
                        self.same_turns(program, "main", [], [NONE] * many + [last])

    def test_what_is_never_reached(self):
        self.same_for_all_replies([("return", None), ("try", [("yield",)], "e", [("finally", [], [("yield",)])])], 2)
        self.same_for_all_replies([("finally", [("throw", 1), ("shield", [("yield",)])],
            [("return", None), ("yield",)])], 3)
        self.same_for_all_replies([("while", True, [("throw", 1), ("while", False, [("emit", 1)])]), ("yield",)], 3)

    def test_many_programs(self):
        for seed in range(250):
            maker = ProgramMaker(1000 + seed)
            program = maker.program()
            code = self.compiled(program)
            for name, params, _, _ in program:
                for friendly in (True, False, True):
                    args = maker.args_for(params)
                    replies = maker.replies_for(Direct(program, name, args), 60, friendly)
                    direct = turns_of(Direct(program, name, args), replies)
                    self.assertEqual(repr(turns_of(CodeRun(code, name, args), replies)), repr(direct))


if __name__ == "__main__":
    unittest.main()
