"""Points 3 to 7, 12 and 14: which values have the form of a program, and its bounds."""

import itertools
import random
import unittest

from helper import (
    ODD_VALUES, RESERVED, WRAPS, ProgramMaker, deep, main_with, part_at, paths, program_of_length, replaced,
        sample_program,
    unchanged_by,
)
from seedbed.checks import check_program
from seedbed.errors import BadProgram
from seedbed.notation import format_program

MOST = 1000000000


class Checked(unittest.TestCase):
    def good(self, program):
        self.assertIsNone(check_program(program))

    def bad(self, program):
        with self.assertRaises(BadProgram):
            check_program(program)

    def good_body(self, *body):
        self.good(main_with([*body]))

    def bad_body(self, *body):
        self.bad(main_with([*body]))


class NoPrograms(Checked):
    def test_values_of_all_kinds(self):
        for value in ODD_VALUES:
            self.bad(value)

    def test_a_program_that_is_a_tuple_or_its_own_only_function(self):
        self.bad(tuple(main_with([])))
        self.bad(main_with([])[0])
        self.bad([main_with([])])

    def test_values_of_all_kinds_in_place_of_each_part(self):
        # A part of a valid program is replaced: nothing but BadProgram may come out of it.
        for path in list(paths(sample_program())):
            for value in ODD_VALUES:
                program = replaced(sample_program(), path, value)
                try:
                    self.assertIsNone(check_program(program))
                except BadProgram:
                    pass

    def test_each_tuple_as_a_list_and_each_list_as_a_tuple(self):
        for path in list(paths(sample_program())):
            part = part_at(sample_program(), path)
            if isinstance(part, tuple):
                self.bad(replaced(sample_program(), path, list(part)))
            if isinstance(part, list):
                self.bad(replaced(sample_program(), path, tuple(part)))

    def test_each_tuple_with_a_part_more_or_less(self):
        for path in list(paths(sample_program())):
            part = part_at(sample_program(), path)
            if isinstance(part, tuple):
                for more in (None, True, 1, "x", [], ()):
                    self.bad(replaced(sample_program(), path, (*part, more)))
                self.bad(replaced(sample_program(), path, part[:-1]))
                self.bad(replaced(sample_program(), path, part[1:]))
                self.bad(replaced(sample_program(), path, ()))

    def test_each_word_as_an_unknown_one(self):
        for path in list(paths(sample_program())):
            part = part_at(sample_program(), path)
            if isinstance(part, tuple) and len(path) > 1 and part[0] in RESERVED + list("+-*<="):
                for word in ("", "Emit", "emits", "ask", "end", "else", "default", "catch", "func", "watch", "x", 0,
                    ()):
                    self.bad(replaced(sample_program(), [*path, 0], word))

    def test_random_changes_raise_nothing_else(self):
        chance = random.Random(5)
        for seed in range(150):
            program = ProgramMaker(seed).program()
            places = list(paths(program))
            for _ in range(6):
                value = chance.choice(ODD_VALUES[:-6] + [part_at(program, chance.choice(places))])
                changed = replaced(program, chance.choice(places), value)
                try:
                    self.assertIsNone(check_program(changed))
                except BadProgram:
                    pass

    def test_lists_that_hold_the_same_list_again_and_again(self):
        body = [("yield",)]
        for _ in range(60):
            body = [("if", True, body, body)] * 2
        self.bad_body(*body)
        expression = 1
        for _ in range(60):
            expression = ("+", expression, expression)
        self.bad_body(("emit", expression))
        self.bad_body(("call", None, "main", [expression] * 10 ** 6))
        self.bad([main_with([])[0]] * 10 ** 6)
        self.bad_body(*[("yield",)] * 10 ** 6)
        self.bad_body(("select", [("after", 1, [])] * 10 ** 6, None))
        self.bad([*main_with([]), ("f", [("a", "int")] * 10 ** 6, None, [])])


class Names(Checked):
    GOOD = ["a", "z", "a0", "z9", "main", "abcdefghijkl", "a23456789012", "nones", "tru", "ifs", "end1", "intx",
        "watch1"]
    BAD = [
        "", "A", "aB", "0", "0a", "9", "_", "a_b", "a-b", "a b", " a", "a ", "a\n", "abcdefghijklm", "a234567890123",
        "\u00e4", "a\u00e4", "a\u0663", "\u0430", "a.", "a\x00", "+", None, 0, True, ("a",), ["a"], (), [], *RESERVED,
    ]

    def test_of_variables(self):
        for name in self.GOOD:
            self.good_body(("let", name, 1))
        for name in self.BAD:
            self.bad_body(("let", name, 1))

    def test_at_each_place_that_makes_a_variable(self):
        for name in [*self.GOOD, *self.BAD]:
            valid = name in self.GOOD
            for statement in (
                ("now", name), ("open", name, 1), ("try", [], name, []),
                ("scope", None, False, [("spawn", name, "main", [])]),
            ):
                (self.good_body if valid else self.bad_body)(statement)
            if name != "c":
                for statement in (("receive", name, "c"), ("select", [("receive", name, "c", [])], None)):
                    (self.good_body if valid else self.bad_body)(("open", "c", 1), statement)
            if name is not None:
                await_it = [("scope", None, False, [("spawn", "t", "main", []), ("await", name, "t")])]
                (self.good_body if valid else self.bad_body)(*await_it)
                program = [("f", [], "int", [("return", 1)]), *main_with([("call", name, "f", [])])]
                (self.good if valid else self.bad)(program)

    def test_of_params(self):
        for name in self.GOOD:
            self.good([("f", [(name, "int")], None, [("emit", name)]), *main_with([])])
        for name in self.BAD:
            self.bad([("f", [(name, "int")], None, []), *main_with([])])

    def test_of_functions(self):
        for name in self.GOOD:
            if name != "main":
                self.good([(name, [], None, []), *main_with([("call", None, name, [])])])
        for name in self.BAD:
            self.bad([(name, [], None, []), *main_with([])])

    def test_all_reserved_words_are_no_names(self):
        self.assertEqual(len(RESERVED), 41)
        for word in RESERVED:
            self.bad_body(("let", word, 1))
            self.good_body(("let", word[:-1] + "x", 1))


class Numbers(Checked):
    def test_the_ends_of_the_range(self):
        for number in (0, 1, -1, MOST, -MOST):
            self.good_body(("emit", number))
            self.good_body(("emit", ("+", ("*", 2, number), number)))

    def test_beyond_the_range(self):
        for number in (MOST + 1, -MOST - 1, 2 * MOST + 1, 10 ** 30, -10 ** 30, 10 ** 5000):
            self.bad_body(("emit", number))
            self.bad_body(("emit", ("+", 1, ("*", 2, number))))
            self.bad_body(("let", "x", ("<", number, 1)))


class Expressions(Checked):
    def test_each_sign(self):
        for sign in ("+", "-", "*", "<", "<=", "="):
            self.good_body(("let", "x", (sign, 1, 2)))
        for sign in ("and", "or"):
            self.good_body(("let", "x", (sign, True, False)))
        self.good_body(("let", "x", ("not", True)))

    def test_unknown_signs(self):
        for sign in ("/", "%", ">", ">=", "==", "!=", "xor", "", "AND", "Not", "emit", "x", 1, None, True, (), ("+",)):
            self.bad_body(("let", "x", (sign, 1, 2)))
            self.bad_body(("let", "x", (sign, True, True)))
            self.bad_body(("let", "x", (sign, True)))
            self.bad_body(("emit", ("+", 1, (sign, 1, 2))))

    def test_the_number_of_parts(self):
        for sign in ("+", "-", "*", "<", "<=", "="):
            for parts in ([], [1], [1, 2, 3]):
                self.bad_body(("let", "x", (sign, *parts)))
        for sign in ("and", "or"):
            for parts in ([], [True], [True, True, True]):
                self.bad_body(("let", "x", (sign, *parts)))
        for parts in ([], [True, True]):
            self.bad_body(("let", "x", ("not", *parts)))

    def test_what_is_no_expression(self):
        for value in (None, "", "X", "none", "true", "1", "+", (), [], [1], ["+", 1, 2], ("x",), (1,), ((1,),)):
            self.bad_body(("let", "x", value))
            self.bad_body(("let", "x", ("+", 1, value)))
            self.bad_body(("let", "x", ("not", value)))
            self.bad_body(("emit", value))

    def test_the_depth_is_at_most_8(self):
        for sign, leaf in (("+", 1), ("*", -4)):
            for depth in range(1, 9):
                self.good_body(("emit", deep(sign, depth, leaf, 1)))
            for depth in (9, 10, 50, 3000):
                self.bad_body(("emit", deep(sign, depth, leaf, 1)))
        expression = 1
        for depth in range(2, 11):
            expression = ("-", 2, expression)
            (self.good_body if depth <= 8 else self.bad_body)(("emit", expression))
        expression = True
        for depth in range(2, 11):
            expression = ("not", expression)
            (self.good_body if depth <= 8 else self.bad_body)(("let", "x", expression))

    def test_the_depth_at_each_place_of_an_expression(self):
        for make in EXPRESSION_PLACES:
            for depth in (8, 9):
                body = [("open", "c", 1), *make(deep("+", depth, 1, 2))]
                program = [("f", [("a", "int")], "int", [("return", "a")]), *main_with(body)]
                (self.good if depth == 8 else self.bad)(program)

    def test_a_name_has_the_depth_1(self):
        self.good_body(("let", "x", 1), ("emit", deep("+", 8, "x", "x")))
        self.bad_body(("let", "x", 1), ("emit", deep("+", 9, "x", "x")))


# Each makes statements with a given expression, an int; f takes an int and gives one, c is a channel.
EXPRESSION_PLACES = [
    lambda e: [("let", "x", e)],
    lambda e: [("let", "x", 1), ("set", "x", e)],
    lambda e: [("emit", e)],
    lambda e: [("throw", e)],
    lambda e: [("scope", e, False, [])],
    lambda e: [("scope", e, True, [])],
    lambda e: [("using", e, [])],
    lambda e: [("open", "d", e)],
    lambda e: [("send", "c", e)],
    lambda e: [("sleep", e)],
    lambda e: [("scope", None, False, [("spawn", "t", "f", [e])])],
    lambda e: [("call", "x", "f", [e])],
    lambda e: [("call", None, "f", [e])],
    lambda e: [("select", [("send", "c", e, [])], None)],
    lambda e: [("select", [("after", 1, []), ("after", e, [])], [])],
]


class Functions(Checked):
    def test_a_program_has_1_to_8_functions(self):
        self.bad([])
        for many in range(0, 10):
            program = [(f"f{k}", [], None, []) for k in range(many)] + main_with([])
            (self.good if many <= 7 else self.bad)(program)

    def test_one_function_is_main(self):
        self.good([("f", [], None, []), *main_with([])])
        self.good([*main_with([]), ("f", [], None, [])])
        self.bad([("f", [], None, [])])
        self.bad([("mains", [], None, []), ("f", [], None, [])])

    def test_main_has_no_params_and_no_result(self):
        self.bad([("main", [("a", "int")], None, [])])
        self.bad([("main", [], "int", [("return", 1)])])

    def test_names_of_functions_differ(self):
        self.bad([*main_with([]), *main_with([])])
        self.bad([("f", [], None, []), *main_with([]), ("f", [], None, [])])
        self.bad([("f", [], None, []), ("f", [("a", "int")], "int", [("return", 1)]), *main_with([])])

    def test_variables_may_have_the_names_of_functions(self):
        self.good([("f", [("f", "int"), ("main", "int")], None, []), *main_with([("let", "f", 1), ("let", "main", 2)])])

    def test_params(self):
        for kind in ("int", "bool", "channel", "task"):
            self.good([("f", [("a", kind)], None, []), *main_with([])])
        for kind in ("Int", "none", "", "string", None, True, 0, (), ("int",), ["int"], "a"):
            self.bad([("f", [("a", kind)], None, []), *main_with([])])
        for many in range(0, 7):
            params = [(f"a{k}", "int") for k in range(many)]
            (self.good if many <= 4 else self.bad)([("f", params, None, []), *main_with([])])

    def test_params_have_different_names(self):
        self.bad([("f", [("a", "int"), ("a", "int")], None, []), *main_with([])])
        self.bad([("f", [("a", "int"), ("b", "int"), ("c", "int"), ("a", "bool")], None, []), *main_with([])])
        self.good([("f", [("a", "int")], None, []), ("g", [("a", "int")], None, []), *main_with([])])

    def test_params_of_another_form(self):
        for params in (None, (), (("a", "int"),), "a", ["a"], ["ab"], [["a", "int"]], [("a",)], [("a", "int", 1)],
            [None]):
            self.bad([("f", params, None, []), *main_with([])])

    def test_results(self):
        self.good([("f", [], "int", [("return", 1)]), *main_with([])])
        for result in ("bool", "channel", "task", "none", "Int", "", 0, 1, True, False, [], (), ("int",), ["int"]):
            self.bad([("f", [], result, [("return", 1)]), *main_with([])])
            self.bad([("f", [], result, []), *main_with([])])

    def test_bodies_of_another_form(self):
        for body in (None, (), (("yield",),), "yield", 0, True, ["yield"], [["yield"]], [None], [()], [[]], [0]):
            self.bad(main_with(body))
            self.bad_body(("if", True, body, []))
            self.bad_body(("if", True, [], body))
            self.bad_body(("while", True, body))
            self.bad_body(("try", body, "e", []))
            self.bad_body(("try", [], "e", body))
            self.bad_body(("finally", body, []))
            self.bad_body(("finally", [], body))
            self.bad_body(("scope", None, True, body))
            self.bad_body(("shield", body))
            self.bad_body(("using", 1, body))
            self.bad_body(("select", [("after", 1, body)], None))
            if body is not None:
                self.bad_body(("select", [("after", 1, [])], body))


class Statements(Checked):
    def test_a_program_with_all_statements(self):
        self.good(sample_program())

    def test_each_statement_in_each_of_its_forms(self):
        self.good_body(("let", "x", 1), ("set", "x", 2), ("emit", "x"), ("throw", "x"))
        self.good_body(("if", True, [], []), ("if", False, [("yield",)], [("yield",)]))
        self.good_body(("while", True, []), ("while", False, [("yield",)]))
        self.good_body(("return", None))
        self.good([("f", [], "int", [("return", 3)]), *main_with([])])
        self.good_body(("try", [], "e", []), ("try", [("throw", 1)], "e", [("emit", "e")]))
        self.good_body(("finally", [], []), ("finally", [("yield",)], [("yield",)]))
        for watched in (True, False):
            self.good_body(("scope", None, watched, []), ("scope", 5, watched, [("yield",)]),
                ("scope", -1, watched, []))
        self.good_body(("shield", []), ("shield", [("yield",)]), ("using", 0, []), ("using", 99, [("yield",)]))
        self.good_body(("scope", None, False, [
            ("spawn", "t", "main", []), ("await", "v", "t"), ("await", None, "t"), ("cancel", "t"),
        ]))
        self.good_body(("open", "c", 1), ("send", "c", 1), ("receive", "x", "c"), ("close", "c"))
        self.good_body(("sleep", 1), ("yield",), ("now", "n"))
        self.good([
            ("f", [], "int", [("return", 1)]), ("g", [], None, []),
            *main_with([("call", "x", "f", []), ("call", None, "f", []), ("call", None, "g", [])]),
        ])

    def test_each_arm_in_each_of_its_forms(self):
        self.good_body(
            ("open", "c", 1),
            ("select", [("send", "c", 1, [])], None),
            ("select", [("receive", "x", "c", [("emit", "x")])], []),
            ("select", [("after", 0, [("yield",)])], [("yield",)]),
            ("select", [("send", "c", 1, []), ("receive", "x", "c", []), ("after", 1, []), ("after", 2, [])], None),
        )

    def test_arms_of_another_form(self):
        self.bad_body(("select", [], None))
        self.bad_body(("select", [], []))
        self.bad_body(("select", None, None))
        self.bad_body(("select", (("after", 1, []),), None))
        for many in range(1, 7):
            (self.good_body if many <= 4 else self.bad_body)(("select", [("after", 1, [])] * many, None))
        for arm in (
            None, (), [], "after", ("after",), ("after", 1), ("after", 1, [], []), ["after", 1, []], ("sleep", 1, []),
            ("yield", []), ("default", []), (1, 2, []), ("emit", 1), ("send", "c", 1), ("receive", "x", "c"),
            ("receive", None, "c", []), ("send", "c", []), ("after", None, []), ((), 1, []), ("close", "c", []),
        ):
            self.bad_body(("open", "c", 1), ("select", [arm], None))
            self.bad_body(("open", "c", 1), ("select", [("after", 1, []), arm], None))

    def test_watched_is_true_or_false(self):
        for watched in (None, 0, 1, "true", "watch", "", (), []):
            self.bad_body(("scope", None, watched, []))

    def test_none_only_where_it_may_stand(self):
        for statement in (
            ("let", None, 1), ("let", "x", None), ("set", None, 1), ("emit", None), ("if", None, [], []),
            ("while", None, []), ("throw", None), ("try", [], None, []), ("using", None, []), ("await", None, None),
            ("await", "x", None), ("cancel", None), ("open", None, 1), ("open", "c", None), ("close", None),
            ("sleep", None), ("now", None), ("call", None, None, []), ("call", None, "f", None), ("send", None, 1),
            ("receive", None, "c"), ("receive", "x", None), ("spawn", None, "f", []), ("spawn", "t", None, []),
            ("shield", None), ("finally", None, None), (None,), None,
        ):
            body = [("open", "ch", 1), ("scope", None, False, [statement])]
            self.bad([("f", [], None, []), *main_with(body)])
            self.bad([("f", [], None, []), *main_with([statement])])

    def test_args_of_another_form(self):
        for args in (None, (), (1,), "a", 1, [None], [[1]], ["X"], [()], [(1,)], [1, 2]):
            self.bad([("f", [("a", "int")], None, []), *main_with([("call", None, "f", args)])])
            self.bad([
                ("f", [("a", "int")], None, []), *main_with([("scope", None, False, [("spawn", "t", "f", args)])]),
            ])

    def test_words_that_are_no_statements(self):
        for word in ("", "Emit", "catch", "watch", "end", "else", "default", "after", "func", "none", "enter", "leave",
                     "unveil", "acquire", "release", "x", "main", "int", "ask"):
            for parts in ([], [1], ["x"], ["x", 1], [[]], [1, []], [None, True, []], [None, "main", []]):
                self.bad_body((word, *parts))
                self.bad_body(("shield", [("finally", [], [(word, *parts)])]))


class Bounds(Checked):
    def test_bodies_are_nested_at_most_8_deep(self):
        for word, wrap in WRAPS.items():
            if word == "catch":
                continue
            for depth in range(2, 12):
                body = []
                for _ in range(depth - 1):
                    body = [wrap(body)]
                with self.subTest(word=word, depth=depth):
                    (self.good if depth <= 8 else self.bad)(main_with(body))
                    (self.good if depth <= 8 else self.bad)([*main_with([]), ("f", [], None, body)])

    def test_bodies_8_deep_of_all_statements(self):
        for outer, inner in itertools.product(WRAPS, WRAPS):
            if outer == "catch" and inner in ("try", "catch"):
                continue   # both make the same variable
            body = [("yield",)]
            for _ in range(5):
                body = [("shield", body)]
            eight = [WRAPS[outer]([WRAPS[inner](body)])]
            self.good(main_with(eight))
            self.bad(main_with([("shield", eight)]))
            self.bad(main_with([("yield",), ("if", True, [("yield",)], eight)]))

    def test_deep_within_many(self):
        body = [("yield",)]
        for _ in range(20000):
            body = [("shield", body)]
        self.bad(main_with(body))

    def test_at_most_160_statements(self):
        self.good_body(*[("yield",)] * 160)
        self.bad_body(*[("yield",)] * 161)
        self.good([("f", [], None, [("yield",)] * 60), *main_with([("yield",)] * 100)])
        self.bad([("f", [], None, [("yield",)] * 60), *main_with([("yield",)] * 101)])

    def test_statements_of_inner_bodies_count(self):
        for word, wrap in WRAPS.items():
            more = 3 if word == "arm" else 2 if word == "default" else 1
            with self.subTest(word=word):
                self.good_body(wrap([("yield",)] * (160 - more)))
                self.bad_body(wrap([("yield",)] * (161 - more)))
                self.good_body(("yield",), wrap([("yield",)] * (159 - more)))
                self.bad_body(("yield",), wrap([("yield",)] * (159 - more)), ("yield",))

    def test_arms_count_as_statements(self):
        select = ("select", [("after", 1, [])] * 4, None)
        self.good_body(*[select] * 32)
        self.bad_body(*[select] * 32, ("yield",))
        select = ("select", [("after", 1, [("yield",)])] * 3, [("yield",)])
        self.good_body(*[select] * 20)
        self.bad_body(*[select] * 20, ("yield",))

    def test_at_most_1000_expressions(self):
        full = deep("+", 8, 1, 2)   # 15 expressions
        body = [("emit", full)] * 66
        self.good_body(*body, *[("emit", 1)] * 10)
        self.bad_body(*body, *[("emit", 1)] * 11)
        self.bad_body(*body, *[("emit", 1)] * 9, ("let", "x", ("not", True)))
        self.good_body(*body, *[("emit", 1)] * 8, ("let", "x", ("not", True)))
        self.good([("f", [], None, body[:30]), *main_with([*body[30:], *[("emit", 1)] * 10])])
        self.bad([("f", [], None, body[:30]), *main_with([*body[30:], *[("emit", 1)] * 11])])

    def test_each_place_of_an_expression_counts(self):
        # 980 expressions, which each place fills up to 1000 and then to 1001; places have up to two other ones.
        expression = 1
        for _ in range(3):
            expression = ("+", expression, expression)   # 15 expressions
        body = [("emit", expression)] * 64
        for make in EXPRESSION_PLACES:
            statements = make(deep("+", 8, 1, 2))
            others = count_expressions(statements) - 15
            for more in (25 - others - 1, 25 - others):
                program = [
                    ("f", [("a", "int")], "int", [("return", "a")]),
                    *main_with([*body, ("open", "c", 1), *statements, *[("emit", 1)] * (more - 2)]),
                ]
                count = count_expressions(program)
                self.assertEqual(count, 1000 if more == 25 - others else 999)
                self.good(program)
                program[1][3].append(("emit", 1))
                (self.good if count == 999 else self.bad)(program)

    def test_conditions_and_channels_and_tasks_count(self):
        body = [("emit", deep("+", 8, 1, 2))] * 66   # 990 expressions
        self.good_body(*body, ("open", "c", 1), *[("close", "c")] * 9)
        self.bad_body(*body, ("open", "c", 1), *[("close", "c")] * 10)
        self.good_body(*body, *[("if", True, [], [])] * 5, *[("while", True, [])] * 5)
        self.bad_body(*body, *[("if", True, [], [])] * 6, *[("while", True, [])] * 5)
        spawned = [("spawn", "t", "main", []), *[("await", None, "t")] * 5, *[("cancel", "t")] * 5]
        self.good_body(*body, ("scope", None, False, spawned))
        self.bad_body(*body, ("scope", None, False, [*spawned, ("cancel", "t")]))
        arms = [("receive", "x", "c", [])] * 4
        self.good_body(*body, ("open", "c", 1), *[("select", arms, None)] * 2, ("close", "c"))
        self.bad_body(*body, ("open", "c", 1), *[("select", arms, None)] * 2, *[("close", "c")] * 2)

    def test_names_and_none_are_no_expressions(self):
        body = [("emit", deep("+", 8, 1, 2))] * 66
        self.good([
            ("f", [], "int", [("return", 1)]),
            *main_with([*body, *[("emit", 1)] * 9, ("call", "x", "f", []), ("now", "n"), ("scope", None, True, [])]),
        ])


def count_expressions(value):
    """Count the expressions of a program, or a body, without selects that receive: all that stands in it is known."""
    if isinstance(value, list):
        return sum(count_expressions(part) for part in value)
    if len(value) == 4 and isinstance(value[1], list) and value[0] in ("f", "main"):
        return count_expressions(value[3])
    word, *parts = value
    many = 0
    for role, part in zip(ROLES[word], parts):
        many += count_expressions(part) if role == "B" else 0
        many += parts_of_expression(part) if role == "E" else 0
        many += sum(parts_of_expression(arg) for arg in part) if role == "A" else 0
        many += sum(sum(map(parts_of_expression, arm[1:-1])) for arm in part) if role == "S" else 0
    return many


ROLES = {
    "let": "NE", "set": "NE", "emit": "E", "throw": "E", "return": "E", "scope": "EWB", "using": "EB", "open": "NE",
    "send": "EE", "sleep": "E", "spawn": "NFA", "call": "NFA", "select": "SN", "yield": "",
}


def parts_of_expression(expression):
    if expression is None:
        return 0
    if not isinstance(expression, tuple):
        return 1
    return 1 + sum(parts_of_expression(part) for part in expression[1:])


class Lengths(Checked):
    def test_a_written_form_of_20000_characters(self):
        for length in (19000, 19999, 20000, 20001, 20002, 20100):
            program = program_of_length(length)
            self.assertEqual(len(format_program(program)), length)
            (self.good if length <= 20000 else self.bad)(program)


class TheProgramStays(Checked):
    def test_valid_programs(self):
        self.assertTrue(unchanged_by(check_program, sample_program()))
        for seed in range(20):
            self.assertTrue(unchanged_by(check_program, ProgramMaker(seed).program()))

    def test_a_list_at_two_places_is_allowed(self):
        body = [("let", "x", 1)]
        self.good_body(("if", True, body, body), ("shield", body))

    def test_other_programs(self):
        def refuse(program):
            self.assertRaises(BadProgram, check_program, program)
        self.assertTrue(unchanged_by(refuse, [*sample_program(), ("f", [], None, [("emit", "nowhere")])]))


if __name__ == "__main__":
    unittest.main()
