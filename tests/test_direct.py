"""Points 15 to 18: the turns of the direct meaning, Direct and turns_of."""

import copy
import unittest

from helper import ProgramMaker, Told, main_with, repeats_a_list, sample_program, shared_lists
from seedbed.direct import Direct, turns_of
from seedbed.errors import IsDone, OutOfRange

MOST = 1000000000
NONE = ("value", None)
THROW = ("throw", 77)
CANCELLED = ("cancelled",)
END = ("done", ("return", None))

FUNCTIONS = [
    ("give", [("n", "int")], "int", [("emit", "n"), ("return", ("*", "n", 2))]),
    ("quiet", [], None, [("yield",)]),
    ("failing", [], None, [("throw", 5)]),
    ("four", [("a", "int"), ("b", "bool"), ("c", "channel"), ("d", "task")], None, []),
    ("ends", [], "int", [("scope", None, False, [("throw", 3)])]),
]


def ask(*parts):
    return ("ask", parts)


def done(*outcome):
    return ("done", outcome)


class Turns(unittest.TestCase):
    def run_body(self, body, replies):
        return turns_of(Direct([*FUNCTIONS, *main_with(body)], "main", []), replies)

    def check(self, body, replies, *turns):
        """The replies are given to the asks; the turns are those expected, of the same kinds of values."""
        self.assertEqual(repr(self.run_body(body, replies)), repr(list(turns)))

    def check_asking(self, body, *asks):
        """A body that makes these asks, of which each but shield, unveil and release ends it unless it has a value."""
        asks = [("ask", part) for part in asks]
        self.check(body, [NONE] * len(asks), *asks, END)
        for at in range(len(asks)):
            self.check(body, [NONE] * at, *asks[:at + 1])
            self.check(body, [*[NONE] * at, THROW], *asks[:at + 1], done("throw", 77))
            self.check(body, [*[NONE] * at, CANCELLED], *asks[:at + 1], done("cancelled"))


class PlainStatements(Turns):
    def test_nothing(self):
        self.check([], [], END)
        self.check([], [NONE, NONE], END)

    def test_let_and_set_make_no_ask(self):
        self.check([("let", "x", 4), ("set", "x", ("*", "x", "x")), ("let", "b", True), ("set", "b", ("not", "b"))],
            [], END)
        self.check([("let", "x", 4), ("set", "x", ("*", "x", "x")), ("emit", "x")], [NONE], ask("emit", 16), END)
        self.check([("let", "x", MOST), ("set", "x", ("+", "x", 1)), ("emit", "x")], [NONE], ask("emit", -MOST), END)

    def test_statements_that_only_ask(self):
        self.check_asking([("emit", ("+", 1, 2))], ("emit", 3))
        self.check_asking([("sleep", -4)], ("sleep", -4))
        self.check_asking([("yield",)], ("yield",))
        self.check_asking([("open", "c", 3)], ("open", 3))
        self.check_asking([("now", "n")], ("now",))
        self.check_asking([("yield",), ("emit", 1), ("sleep", 0), ("yield",)], ("yield",), ("emit", 1), ("sleep", 0),
            ("yield",))

    def test_channels_and_tasks(self):
        self.check(
            [("open", "c", 3), ("send", "c", ("-", 0, 1)), ("receive", "x", "c"), ("emit", "x"), ("close", "c")],
            [("value", 5), NONE, ("value", 12), NONE, NONE],
            ask("open", 3), ask("send", 5, -1), ask("receive", 5), ask("emit", 12), ask("close", 5), END,
        )
        self.check(
            [("scope", None, False, [
                ("spawn", "t", "give", [("+", 3, 4)]), ("await", "x", "t"), ("emit", "x"), ("await", None, "t"),
                ("cancel", "t"),
            ])],
            [NONE, ("value", 9), ("value", -8), NONE, ("value", 1), NONE, NONE],
            ask("enter", None, False), ask("spawn", "give", [7]), ask("await", 9), ask("emit", -8), ask("await", 9),
            ask("cancel", 9), ask("leave", ("normal",)), END,
        )
        for reply in (THROW, CANCELLED):
            for statement, asked in (
                (("send", "c", 1), ("send", 5, 1)), (("receive", "x", "c"), ("receive", 5)),
                (("close", "c"), ("close", 5)),
            ):
                self.check([("open", "c", 0), statement, ("emit", 1)], [("value", 5), reply], ask("open", 0),
                           ("ask", asked), ("done", reply))
            for statement, asked in (
                (("await", "x", "t"), ("await", 4)), (("await", None, "t"), ("await", 4)),
                (("cancel", "t"), ("cancel", 4)),
                (("spawn", "u", "quiet", []), ("spawn", "quiet", [])),
            ):
                program = [*FUNCTIONS, *main_with([]), ("f", [("t", "task")], None, [("scope", 1, True, [statement])])]
                self.assertEqual(turns_of(Direct(program, "f", [4]), [NONE, reply, CANCELLED]), [
                    ask("enter", 1, True), ("ask", asked), ask("leave", reply), done("cancelled"),
                ])

    def test_none_as_a_value_is_0(self):
        for make, replies in (
            (("now", "x"), [NONE]), (("receive", "x", "c"), [NONE]), (("await", "x", "t"), [NONE]),
        ):
            program = [*main_with([]), ("f", [("c", "channel"), ("t", "task")], None, [make, ("emit", "x")])]
            self.assertEqual(turns_of(Direct(program, "f", [1, 2]), replies)[-1], ask("emit", 0))
        self.check([("open", "c", 1), ("close", "c")], [NONE], ask("open", 1), ask("close", 0))
        self.check(
            [("scope", None, False, [("spawn", "t", "quiet", []), ("cancel", "t")])], [NONE, NONE],
            ask("enter", None, False), ask("spawn", "quiet", []), ask("cancel", 0),
        )

    def test_nothing_is_given_if_the_name_is_none(self):
        program = [*main_with([]), ("f", [("t", "task")], None, [("let", "x", 6), ("await", None, "t"), ("emit", "x")])]
        self.assertEqual(turns_of(Direct(program, "f", [3]), [("value", 9), NONE]),
            [ask("await", 3), ask("emit", 6), END])

    def test_values_beyond_the_range_pass_as_they_are(self):
        far = 10 ** 12
        self.check(
            [("now", "n"), ("emit", "n"), ("sleep", "n"), ("scope", "n", False, []), ("emit", ("+", "n", 0))],
            [("value", far), NONE, NONE, NONE, NONE, NONE],
            ask("now"), ask("emit", far), ask("sleep", far), ask("enter", far, False), ask("leave", ("normal",)),
            ask("emit", (far + MOST) % (2 * MOST + 1) - MOST), END,
        )
        self.check([("now", "n"), ("select", [("after", "n", [])], None)], [("value", -far)], ask("now"),
                   ask("select", [("after", -far)], False))

    def test_the_args_of_a_spawn_are_a_list_of_values(self):
        body = [("scope", 1, False, [("spawn", "u", "four", [("+", "a", 1), ("not", "b"), "c", "d"])])]
        program = [*FUNCTIONS, ("f", FUNCTIONS[3][1], None, body), *main_with([])]
        turns = turns_of(Direct(program, "f", [1, True, 2, 3]), [NONE])
        self.assertEqual(repr(turns[-1]), repr(ask("spawn", "four", [2, False, 2, 3])))

    def test_return_and_throw(self):
        self.check([("return", None), ("emit", 1)], [], END)
        self.check([("throw", ("+", 1, 2)), ("emit", 1)], [], done("throw", 3))
        self.check([("now", "n"), ("throw", "n")], [("value", 10 ** 11)], ask("now"), done("throw", 10 ** 11))
        program = [*FUNCTIONS, *main_with([])]
        self.assertEqual(turns_of(Direct(program, "give", [21]), [NONE]), [ask("emit", 21), done("return", 42)])
        self.assertEqual(turns_of(Direct(program, "give", [MOST]), [NONE])[-1], done("return", -1))


class Choices(Turns):
    def test_if(self):
        for condition, first in ((True, 1), (("<", 2, 1), 2), (("not", False), 1), (("and", True, False), 2)):
            self.check([("if", condition, [("emit", 1)], [("emit", 2)]), ("emit", 3)], [NONE, NONE],
                       ask("emit", first), ask("emit", 3), END)
        self.check([("if", True, [], [("emit", 2)]), ("if", False, [("emit", 1)], [])], [], END)

    def test_what_ends_a_body_ends_those_around_it(self):
        for statement, outcome in ((("return", None), ("return", None)), (("throw", 4), ("throw", 4))):
            body = [("if", True, [statement, ("emit", 1)], []), ("emit", 2)]
            self.check(body, [], ("done", outcome))
            self.check([("while", True, body), ("emit", 3)], [NONE], ask("yield"), ("done", outcome))

    def test_while(self):
        body = [("let", "k", 0), ("while", ("<", "k", 3), [("emit", "k"), ("set", "k", ("+", "k", 1))]), ("emit", 9)]
        self.check(
            body, [NONE] * 7,
            ask("yield"), ask("emit", 0), ask("yield"), ask("emit", 1), ask("yield"), ask("emit", 2), ask("emit", 9),
            END,
        )
        self.check([("while", False, [("emit", 1)])], [], END)
        self.check([("while", True, [])], [NONE] * 5, *[ask("yield")] * 6)
        for reply in (THROW, CANCELLED):
            self.check([("while", True, []), ("emit", 1)], [NONE, reply], ask("yield"), ask("yield"), ("done", reply))
            self.check([("while", True, [("emit", 2)]), ("emit", 1)], [NONE, reply], ask("yield"), ask("emit", 2),
                ("done", reply))

    def test_a_let_in_a_loop(self):
        body = [("let", "k", 0), ("while", ("<", "k", 2),
            [("let", "x", ("+", "k", 1)), ("set", "k", "x"), ("emit", "x")])]
        self.check(body, [NONE] * 4, ask("yield"), ask("emit", 1), ask("yield"), ask("emit", 2), END)

    def test_a_long_loop(self):
        body = [("let", "k", 0), ("while", ("<", "k", 5000), [("set", "k", ("+", "k", 1))]), ("emit", "k")]
        turns = self.run_body(body, [NONE] * 5001)
        self.assertEqual(turns[-2:], [ask("emit", 5000), END])
        self.assertEqual(len(turns), 5002)

    def test_select(self):
        arms = [
            ("send", "c", ("+", 1, 2), [("emit", 10)]), ("receive", "x", "c", [("emit", "x")]),
            ("after", 5, [("emit", 12)]),
            ("receive", "x", "c", [("emit", ("-", 0, "x"))]),
        ]
        asked = [("send", 6, 3), ("receive", 6), ("after", 5), ("receive", 6)]
        for default in (None, [("emit", 13)]):
            body = [("open", "c", 1), ("select", arms, default), ("emit", 0)]
            first = [ask("open", 1), ask("select", asked, default is not None)]
            for value, emitted in (((0, None), 10), ((1, 8), 8), ((1, None), 0), ((2, None), 12), ((3, 4), -4),
                ((0, 5), 10)):
                self.check(body, [("value", 6), ("value", value), NONE, NONE], *first, ask("emit", emitted),
                    ask("emit", 0), END)
            for reply in (THROW, CANCELLED):
                self.check(body, [("value", 6), reply, NONE], *first, ("done", reply))
        self.check(body, [("value", 6), ("value", (4, None)), NONE, NONE], *first, ask("emit", 13), ask("emit", 0), END)

    def test_a_select_of_one_arm_and_empty_bodies(self):
        self.check([("select", [("after", 1, [])], None)], [("value", (0, None))],
            ask("select", [("after", 1)], False), END)
        self.check([("select", [("after", 1, [])], [])], [("value", (1, None))], ask("select", [("after", 1)], True),
            END)

    def test_the_arguments_are_evaluated_before_the_variable_is_set(self):
        body = [("open", "c", 1), ("let", "x", 1), ("select", [("receive", "y", "c", [("set", "x", "y")])], None),
            ("emit", "x")]
        self.check(body, [("value", 0), ("value", (0, 5))], ask("open", 1), ask("select", [("receive", 0)], False),
            ask("emit", 5))


class Tries(Turns):
    def test_the_handler_gets_the_code(self):
        self.check([("try", [("throw", 6), ("emit", 1)], "e", [("emit", "e")]), ("emit", 2)], [NONE, NONE],
                   ask("emit", 6), ask("emit", 2), END)
        self.check([("try", [("yield",), ("emit", 1)], "e", [("emit", "e")])], [THROW, NONE], ask("yield"),
            ask("emit", 77), END)

    def test_without_a_failure(self):
        self.check([("try", [("yield",)], "e", [("emit", "e")]), ("emit", 2)], [NONE, NONE], ask("yield"),
            ask("emit", 2), END)
        self.check([("try", [("return", None)], "e", [("emit", "e")]), ("emit", 2)], [], END)
        self.check([("try", [("yield",)], "e", [("emit", "e")]), ("emit", 2)], [CANCELLED], ask("yield"),
            done("cancelled"))
        self.check([("try", [], "e", [("emit", "e")])], [], END)

    def test_the_completion_is_that_of_the_handler(self):
        self.check([("try", [("throw", 1)], "e", [("throw", ("+", "e", 1))]), ("emit", 2)], [], done("throw", 2))
        self.check([("try", [("throw", 1)], "e", [("return", None)]), ("emit", 2)], [], END)
        self.check([("try", [("throw", 1)], "e", [("yield",)])], [CANCELLED], ask("yield"), done("cancelled"))
        self.check([("try", [("throw", 1)], "e", [])], [], END)

    def test_one_within_another(self):
        inner = ("try", [("throw", 1)], "e", [("emit", "e"), ("throw", 2)])
        self.check([("try", [inner], "f", [("emit", "f")])], [NONE, NONE], ask("emit", 1), ask("emit", 2), END)
        inner = ("try", [("throw", 1)], "e", [])
        self.check([("try", [inner, ("throw", 3)], "f", [("emit", "f")])], [NONE], ask("emit", 3), END)


class Cleanups(Turns):
    OUTCOMES = [
        ([("yield",)], [NONE], ("normal",)),
        ([("yield",)], [THROW], THROW),
        ([("yield",)], [CANCELLED], CANCELLED),
    ]

    def test_finally(self):
        for body, replies, completion in self.OUTCOMES:
            for reply in (NONE, THROW, CANCELLED, ("value", 5)):
                expected = [ask("yield"), ask("shield"), ask("emit", 1), ask("unveil")]
                rest = [ask("emit", 2), END] if completion == ("normal",) else [("done", completion)]
                self.check([("finally", body, [("emit", 1)]), ("emit", 2)], [*replies, reply, NONE, reply, NONE],
                    *expected, *rest)

    def test_finally_with_other_completions(self):
        tail = [ask("shield"), ask("unveil")]
        self.check([("finally", [("return", None)], []), ("emit", 2)], [NONE, NONE], *tail, END)
        self.check([("finally", [("throw", 3)], []), ("emit", 2)], [NONE, NONE], *tail, done("throw", 3))
        self.check([("finally", [], [])], [NONE, NONE], *tail, END)
        program = [("f", [], "int", [("finally", [("return", 8)], [("yield",)])]), *main_with([])]
        self.assertEqual(turns_of(Direct(program, "f", []), [NONE] * 3),
                         [ask("shield"), ask("yield"), ask("unveil"), done("return", 8)])

    def test_the_completion_of_the_cleanup_unless_it_is_normal(self):
        for body, replies, _ in self.OUTCOMES:
            for cleanup, cleanup_replies, completion in (
                ([("yield",)], [THROW], THROW), ([("yield",)], [CANCELLED], CANCELLED),
            ):
                self.check(
                    [("finally", body, cleanup), ("emit", 2)], [*replies, NONE, *cleanup_replies, NONE],
                    ask("yield"), ask("shield"), ask("yield"), ask("unveil"), ("done", completion),
                )
            for last, outcome in ((("return", None), END), (("throw", 9), done("throw", 9))):
                self.check(
                    [("finally", body, [last, ("emit", 1)]), ("emit", 2)], [*replies, NONE, NONE],
                    ask("yield"), ask("shield"), ask("unveil"), outcome,
                )

    def test_within_each_other(self):
        inner = ("finally", [("throw", 1)], [("emit", 1)])
        self.check(
            [("finally", [inner], [("finally", [("throw", 2)], [("emit", 2)])])], [NONE] * 9,
            ask("shield"), ask("emit", 1), ask("unveil"), ask("shield"), ask("shield"), ask("emit", 2), ask("unveil"),
            ask("unveil"), done("throw", 2),
        )
        self.check(
            [("try", [inner], "e", [("emit", ("+", "e", 10))])], [NONE] * 4,
            ask("shield"), ask("emit", 1), ask("unveil"), ask("emit", 11), END,
        )

    def test_shield(self):
        for body, replies, completion in self.OUTCOMES:
            for reply in (NONE, THROW, CANCELLED):
                rest = [ask("emit", 2), END] if completion == ("normal",) else [("done", completion)]
                self.check([("shield", body), ("emit", 2)], [reply, *replies, reply, NONE],
                           ask("shield"), ask("yield"), ask("unveil"), *rest)
        self.check([("shield", [("return", None)]), ("emit", 1)], [NONE, NONE], ask("shield"), ask("unveil"), END)
        self.check([("shield", [("throw", 1)]), ("emit", 1)], [NONE, NONE], ask("shield"), ask("unveil"),
            done("throw", 1))
        self.check([("shield", [])], [NONE, NONE], ask("shield"), ask("unveil"), END)

    def test_using(self):
        for body, replies, completion in self.OUTCOMES:
            for reply in (NONE, THROW, CANCELLED):
                rest = [ask("emit", 2), END] if completion == ("normal",) else [("done", completion)]
                self.check([("using", ("+", 1, 2), body), ("emit", 2)], [NONE, *replies, reply, NONE],
                           ask("acquire", 3), ask("yield"), ask("release", 3), *rest)
        self.check([("using", 1, [("return", None)]), ("emit", 1)], [NONE, NONE], ask("acquire", 1),
            ask("release", 1), END)
        self.check([("using", 1, [])], [NONE, NONE], ask("acquire", 1), ask("release", 1), END)

    def test_a_using_that_does_not_acquire(self):
        for reply in (THROW, CANCELLED):
            self.check([("using", 9, [("emit", 1)]), ("emit", 2)], [reply], ask("acquire", 9), ("done", reply))
            self.check([("try", [("using", 9, [("emit", 1)])], "e", [])], [reply], ask("acquire", 9),
                       END if reply == THROW else ("done", reply))

    def test_the_number_of_a_using_is_that_of_its_beginning(self):
        self.check([("let", "x", 1), ("using", "x", [("set", "x", 5)])], [NONE, NONE], ask("acquire", 1),
            ask("release", 1), END)


class Scopes(Turns):
    def test_the_asks(self):
        for time, told in ((None, None), (5, 5), (("-", 1, 4), -3), (0, 0)):
            for watched in (True, False):
                self.check_asking([("scope", time, watched, [])], ("enter", told, watched), ("leave", ("normal",)))

    def test_the_body_is_not_executed_after_a_bad_enter(self):
        for reply in (THROW, CANCELLED):
            self.check([("scope", None, False, [("emit", 1)]), ("emit", 2)], [reply], ask("enter", None, False),
                ("done", reply))

    def test_the_completion_after_a_leave_with_a_value(self):
        for body, replies, completion in Cleanups.OUTCOMES:
            self.check(
                [("scope", None, True, body), ("emit", 2)], [NONE, *replies, NONE, NONE],
                ask("enter", None, True), ask("yield"), ask("leave", completion), ask("emit", 2), END,
            )
        self.check([("scope", 1, True, [("throw", 4)]), ("emit", 2)], [NONE, NONE], ask("enter", 1, True),
                   ask("leave", ("throw", 4)), ask("emit", 2))
        self.check([("scope", 1, True, [("return", None)]), ("emit", 2)], [NONE, NONE], ask("enter", 1, True),
                   ask("leave", ("return", None)), END)
        program = [("f", [], "int", [("scope", None, False, [("return", 6)])]), *main_with([])]
        self.assertEqual(turns_of(Direct(program, "f", []), [NONE, ("value", 3)]),
                         [ask("enter", None, False), ask("leave", ("return", 6)), done("return", 6)])

    def test_the_completion_after_another_reply_to_a_leave(self):
        for body in ([], [("return", None)], [("throw", 4)]):
            for reply in (THROW, CANCELLED):
                turns = self.run_body([("scope", None, False, body), ("emit", 2)], [NONE, reply])
                self.assertEqual(turns[-1], ("done", reply))
                self.assertEqual(len(turns), 3)

    def test_within_other_statements(self):
        body = [("try", [("finally", [("scope", None, False, [("throw", 1)])], [("emit", 1)])], "e", [("emit", "e")])]
        enter, leave = ask("enter", None, False), ask("leave", ("throw", 1))
        self.check(body, [NONE, NONE, NONE, NONE, NONE], enter, leave, ask("shield"), ask("emit", 1), ask("unveil"),
            END)
        self.check(body, [NONE, THROW, NONE, NONE, NONE, NONE],
                   enter, leave, ask("shield"), ask("emit", 1), ask("unveil"), ask("emit", 77), END)
        self.check([("scope", 1, False, [("scope", 2, True, [("yield",)])])], [NONE, NONE, CANCELLED, CANCELLED, NONE],
                   ask("enter", 1, False), ask("enter", 2, True), ask("yield"), ask("leave", CANCELLED),
                   ask("leave", CANCELLED), END)


class Calls(Turns):
    def test_the_value_of_a_call(self):
        self.check([("call", "x", "give", [("+", 1, 2)]), ("emit", "x")], [NONE, NONE], ask("emit", 3),
            ask("emit", 6), END)
        self.check([("let", "x", 1), ("call", None, "give", [3]), ("emit", "x")], [NONE, NONE], ask("emit", 3),
            ask("emit", 1), END)
        self.check([("call", None, "quiet", []), ("emit", 1)], [NONE, NONE], ask("yield"), ask("emit", 1), END)

    def test_a_function_with_a_result_that_ends_without_a_return(self):
        self.check([("call", "x", "ends", []), ("emit", "x")], [NONE, NONE, NONE],
                   ask("enter", None, False), ask("leave", ("throw", 3)), ask("emit", 0), END)
        program = [*FUNCTIONS, *main_with([])]
        self.assertEqual(turns_of(Direct(program, "ends", []), [NONE, NONE])[-1], END)

    def test_throw_and_cancelled_stay(self):
        self.check([("call", None, "failing", []), ("emit", 1)], [], done("throw", 5))
        self.check([("call", None, "quiet", []), ("emit", 1)], [CANCELLED], ask("yield"), done("cancelled"))
        self.check([("call", "x", "give", [1]), ("emit", 1)], [THROW], ask("emit", 1), done("throw", 77))
        self.check([("try", [("call", None, "failing", [])], "e", [("emit", "e")])], [NONE], ask("emit", 5), END)
        self.check([("finally", [("call", None, "failing", [])], [])], [NONE, NONE], ask("shield"), ask("unveil"),
            done("throw", 5))

    def test_the_variables_are_its_own(self):
        program = [
            ("f", [("x", "int")], None, [("let", "y", ("+", "x", 1)), ("set", "x", 50), ("emit", "y")]),
            ("g", [("y", "int")], None, [("let", "x", 7), ("call", None, "f", [("*", "y", "x")]), ("emit", "x"),
            ("emit", "y")]),
            *main_with([("let", "x", 1), ("let", "y", 2), ("call", None, "g", ["y"]), ("emit", "x"), ("emit", "y")]),
        ]
        self.assertEqual([turn[1][1] for turn in turns_of(Direct(program, "main", []), [NONE] * 5)[:-1]],
            [15, 7, 2, 1, 2])

    def test_a_caught_failure_leaves_the_variables_of_the_caller(self):
        program = [
            ("f", [("x", "int")], None, [("set", "x", 9), ("throw", "x")]),
            *main_with([("let", "x", 1), ("try", [("call", None, "f", [3])], "e", [("emit", "x"), ("emit", "e")]),
                ("emit", "x")]),
        ]
        self.assertEqual([turn[1][1] for turn in turns_of(Direct(program, "main", []), [NONE] * 3)[:-1]], [1, 9, 1])

    def test_a_call_in_a_cleanup(self):
        self.check(
            [("finally", [("return", None)], [("call", "x", "give", [4]), ("emit", "x")])], [NONE] * 4,
            ask("shield"), ask("emit", 4), ask("emit", 8), ask("unveil"), END,
        )


class Functions(unittest.TestCase):
    def test_params_have_the_values_of_the_args(self):
        params = [("a", "int"), ("b", "bool"), ("c", "channel"), ("d", "task")]
        body = [("if", "b", [("emit", "a")], [("emit", 0)]), ("close", "c"), ("cancel", "d")]
        program = [("f", params, None, body), *main_with([])]
        self.assertEqual(turns_of(Direct(program, "f", [5, True, 6, 7]), [NONE] * 3),
                         [ask("emit", 5), ask("close", 6), ask("cancel", 7), END])
        self.assertEqual(turns_of(Direct(program, "f", [10 ** 13, True, 6, 7]), [])[0], ask("emit", 10 ** 13))
        self.assertEqual(turns_of(Direct(program, "f", [5, False, 6, 7]), [])[0], ask("emit", 0))

    def test_refusals(self):
        program = [*FUNCTIONS, *main_with([])]
        for name, args in (
            ("nowhere", []), ("", []), ("n", []), ("mai", []), ("main", [1]), ("give", []), ("give", [1, 2]),
            ("four", [1, True, 2]), ("four", [1, True, 2, 3, 4]), ("quiet", [None]),
        ):
            with self.assertRaises(OutOfRange):
                Direct(program, name, args)
        self.assertEqual(program, [*FUNCTIONS, *main_with([])])


class Resuming(unittest.TestCase):
    def coroutine(self):
        return Direct(main_with([("now", "x"), ("emit", "x")]), "main", [])

    def test_replies_lead_from_ask_to_ask(self):
        coroutine = self.coroutine()
        self.assertEqual(coroutine.resume(), ask("now"))
        self.assertEqual(coroutine.resume(("value", 3)), ask("emit", 3))
        self.assertEqual(coroutine.resume(reply=("value", None)), END)

    def test_a_reply_at_first(self):
        coroutine = self.coroutine()
        for reply in (NONE, THROW, CANCELLED):
            self.assertRaises(OutOfRange, coroutine.resume, reply)
        self.assertEqual(coroutine.resume(None), ask("now"))

    def test_no_reply_later(self):
        coroutine = self.coroutine()
        coroutine.resume()
        for _ in range(3):
            self.assertRaises(OutOfRange, coroutine.resume)
            self.assertRaises(OutOfRange, coroutine.resume, None)
        self.assertEqual(coroutine.resume(("value", 3)), ask("emit", 3))
        self.assertRaises(OutOfRange, coroutine.resume)
        self.assertEqual(coroutine.resume(NONE), END)

    def test_after_the_end(self):
        for ending in ([NONE, NONE], [THROW], [NONE, CANCELLED]):
            coroutine = self.coroutine()
            self.assertEqual(turns_of(coroutine, ending)[-1][0], "done")
            for _ in range(2):
                self.assertRaises(IsDone, coroutine.resume)
                self.assertRaises(IsDone, coroutine.resume, NONE)
                self.assertRaises(IsDone, coroutine.resume, THROW)

    def test_done_at_first(self):
        coroutine = Direct(main_with([]), "main", [])
        self.assertRaises(OutOfRange, coroutine.resume, NONE)
        self.assertEqual(coroutine.resume(), END)
        self.assertRaises(IsDone, coroutine.resume)

    def test_coroutines_of_one_program_are_apart(self):
        program = main_with([("let", "x", 1), ("while", True, [("set", "x", ("+", "x", 1)), ("emit", "x")])])
        first, second = Direct(program, "main", []), Direct(program, "main", [])
        self.assertEqual([first.resume(), first.resume(NONE), first.resume(NONE), first.resume(NONE)][3],
            ask("emit", 3))
        self.assertEqual([second.resume(), second.resume(NONE)][1], ask("emit", 2))


class LaterChanges(unittest.TestCase):
    def test_of_the_program(self):
        program = sample_program()
        coroutine, same = Direct(program, "main", []), Direct(sample_program(), "main", [])
        turn = coroutine.resume()
        same.resume()
        for function in program:
            function[1].clear()
            function[3].clear()
        program.clear()
        while turn[0] == "ask":
            reply = ("value", (1, 5)) if turn[1][0] == "select" else NONE
            turn = coroutine.resume(reply)
            self.assertEqual(turn, same.resume(reply))
        self.assertEqual(turn, END)

    def test_of_inner_lists_of_the_program(self):
        args, arms, body = [1, 2], [("after", 1, [])], [("emit", 5)]
        program = [
            ("f", [("a", "int"), ("b", "int")], None, [("emit", "b")]),
            *main_with([("yield",), ("call", None, "f", args), ("select", arms, []), ("if", True, body, body)]),
        ]
        coroutine = Direct(program, "main", [])
        coroutine.resume()
        args.append(3)
        arms.clear()
        body.clear()
        program[0][1].pop()
        turns = [coroutine.resume(NONE), coroutine.resume(NONE), coroutine.resume(("value", (1, None))),
            coroutine.resume(NONE)]
        self.assertEqual(turns, [ask("emit", 2), ask("select", [("after", 1)], True), ask("emit", 5), END])

    def test_of_args(self):
        args = [4]
        coroutine = Direct([*FUNCTIONS, *main_with([])], "give", args)
        args[0] = 9
        args.append(1)
        self.assertEqual(coroutine.resume(), ask("emit", 4))
        self.assertEqual(coroutine.resume(NONE), done("return", 8))

    def test_of_a_told_ask(self):
        body = [("scope", 1, False, [("while", True, [
            ("spawn", "t", "give", [1]), ("select", [("after", 2, [("emit", 3)]), ("after", 4, [])], None),
        ])])]
        coroutine = Direct([*FUNCTIONS, *main_with(body)], "main", [])
        replies = [NONE, NONE, NONE, ("value", (0, None)), NONE] + [NONE, NONE, ("value", (1, None))]
        expected = turns_of(Direct([*FUNCTIONS, *main_with(body)], "main", []), replies)
        turn = coroutine.resume()
        turns = [copy.deepcopy(turn)]
        for reply in replies:
            for part in turn[1]:
                if isinstance(part, list):
                    part.append(("after", 0))
                    part[0] = None
            turn = coroutine.resume(reply)
            turns.append(copy.deepcopy(turn))
        self.assertEqual(turns, expected)

    def test_the_arguments_stay(self):
        for seed in range(20):
            maker = ProgramMaker(seed)
            program = maker.program()
            before = copy.deepcopy(program)
            for function in program:
                args = maker.args_for(function[1])
                replies = maker.replies_for(Direct(program, function[0], args), 40, True)
                given = (list(args), list(replies))
                turns_of(Direct(program, function[0], args), replies)
                self.assertEqual((args, replies), given)
            self.assertEqual(repr(program), repr(before))


class TurnsOf(unittest.TestCase):
    BODY = [("yield",), ("emit", 1), ("scope", None, False, [("spawn", "t", "quiet", []), ("spawn", "u", "quiet", [])])]

    def coroutine(self):
        return Direct([*FUNCTIONS, *main_with(self.BODY)], "main", [])

    def test_fewer_and_more_replies_than_are_used(self):
        expected = [
            ask("yield"), ask("emit", 1), ask("enter", None, False), ask("spawn", "quiet", []),
            ask("spawn", "quiet", []),
            ask("leave", ("normal",)), END,
        ]
        for many in range(12):
            self.assertEqual(turns_of(self.coroutine(), [NONE] * many), expected[:many + 1])
        self.assertEqual(turns_of(self.coroutine(), [THROW, NONE, NONE]), [ask("yield"), done("throw", 77)])

    def test_the_coroutine_can_be_resumed_behind_its_last_turn(self):
        coroutine = self.coroutine()
        turns_of(coroutine, [NONE])
        self.assertEqual(coroutine.resume(NONE), ask("enter", None, False))
        coroutine = self.coroutine()
        turns_of(coroutine, [NONE] * 6)
        self.assertRaises(IsDone, coroutine.resume, NONE)

    def test_lists_are_new_and_stand_at_one_place(self):
        first, second = turns_of(self.coroutine(), [NONE] * 9), turns_of(self.coroutine(), [NONE] * 9)
        self.assertIs(type(first), list)
        self.assertFalse(repeats_a_list(first))
        self.assertFalse(shared_lists(first, second))

    def test_a_coroutine_of_another_kind(self):
        class Other:
            def __init__(self):
                self.replies = []

            def resume(self, reply=None):
                self.replies.append(reply)
                return ("done", ("cancelled",)) if len(self.replies) == 3 else ("ask", ("yield",))

        other = Other()
        self.assertEqual(turns_of(other, [NONE, THROW, CANCELLED, NONE]),
            [ask("yield"), ask("yield"), done("cancelled")])
        self.assertEqual(other.replies, [None, NONE, THROW])


class ManyPrograms(unittest.TestCase):
    def test_the_turns_are_those_of_the_words_of_the_document(self):
        asked = set()
        for seed in range(250):
            maker = ProgramMaker(seed)
            program = maker.program()
            for name, params, _, _ in program:
                for friendly in (True, False, True):
                    args = maker.args_for(params)
                    replies = maker.replies_for(Direct(program, name, args), 60, friendly)
                    turns = turns_of(Direct(program, name, args), replies)
                    self.assertEqual(repr(turns), repr(turns_of(Told(program, name, args), replies)))
                    self.assertFalse(repeats_a_list(turns))
                    asked |= {turn[1][0] for turn in turns}
        self.assertEqual(asked, {
            "yield", "sleep", "now", "emit", "spawn", "await", "cancel", "open", "send", "receive", "close", "select",
            "enter", "leave", "shield", "unveil", "acquire", "release", "return", "throw", "cancelled",
        })


if __name__ == "__main__":
    unittest.main()
