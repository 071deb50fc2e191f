"""Points 8 to 11: variables, kinds, returns, calls and spawns."""

import unittest

from helper import main_with
from seedbed.checks import check_program
from seedbed.errors import BadProgram

KINDS = ("int", "bool", "channel", "task")

# All statements with inner bodies, with a body at each of the places.
WRAPS = [
    lambda b: ("if", True, b, []),
    lambda b: ("if", True, [], b),
    lambda b: ("while", True, b),
    lambda b: ("try", b, "e9", []),
    lambda b: ("try", [], "e9", b),
    lambda b: ("finally", b, []),
    lambda b: ("finally", [], b),
    lambda b: ("scope", None, False, b),
    lambda b: ("scope", 1, True, b),
    lambda b: ("shield", b),
    lambda b: ("using", 1, b),
    lambda b: ("select", [("after", 1, b)], None),
    lambda b: ("select", [("after", 1, []), ("after", 1, b)], []),
    lambda b: ("select", [("after", 1, [])], b),
    lambda b: ("scope", None, False, [("open", "c9", 1), ("select", [("send", "c9", 1, b)], None)]),
    lambda b: ("scope", None, False, [("open", "c9", 1), ("select", [("receive", "v9", "c9", b)], None)]),
]

# Functions for the bodies below: each takes one value of a kind, some have a result.
TAKING = [(f"take{kind}", [("a", kind)], None, []) for kind in KINDS]
GIVING = [("give", [], "int", [("return", 1)]), ("quiet", [], None, [])]
BEFORE = [*TAKING, *GIVING]


def programs_with(body):
    """Return programs that have the body at the top, within each other body, and deep within others."""
    bodies = [body, [("yield",), *body]]
    for wrap in WRAPS:
        bodies.append([wrap(body)])
        bodies.append([("yield",), wrap([("yield",), ("shield", body)]), ("yield",)])
    deep = body
    for wrap in (WRAPS[4], WRAPS[1]):
        deep = [wrap(deep)]
    bodies.append([("finally", [], [("yield",), ("select", [("after", 1, [])], deep)])])
    programs = [[*BEFORE, *main_with(inner)] for inner in bodies]
    programs.append([*BEFORE, ("other", [], None, body), *main_with([])])
    programs.append([*BEFORE, *main_with([]), ("other", [("p9", "int")], None, body)])
    return programs


class Checked(unittest.TestCase):
    def good(self, program):
        self.assertIsNone(check_program(program))

    def bad(self, program):
        with self.assertRaises(BadProgram):
            check_program(program)

    def good_everywhere(self, *body):
        for program in programs_with(list(body)):
            self.good(program)

    def bad_everywhere(self, *body):
        for program in programs_with(list(body)):
            self.bad(program)


class Wraps(Checked):
    def test_what_is_around_the_bodies_is_valid(self):
        self.good_everywhere()
        self.good_everywhere(("emit", 1))


def scoped(*body):
    return ("scope", None, False, list(body))


# How a variable v of a kind is made; what stands before it; a statement that uses it.
MAKERS = [
    ([], ("let", "v", 1), ("emit", "v")),
    ([], ("let", "v", True), ("while", "v", [])),
    ([], ("now", "v"), ("emit", "v")),
    ([], ("open", "v", 1), ("close", "v")),
    ([("open", "ch", 1)], ("receive", "v", "ch"), ("emit", "v")),
    ([], ("call", "v", "give", []), ("emit", "v")),
]
SCOPED_MAKERS = [
    ([], ("spawn", "v", "quiet", []), ("cancel", "v")),
    ([("spawn", "tk", "quiet", [])], ("await", "v", "tk"), ("emit", "v")),
]


class Visibility(Checked):
    def each_maker(self):
        for before, maker, use in MAKERS:
            yield lambda *body, before=before: [*before, *body], maker, use
        for before, maker, use in SCOPED_MAKERS:
            yield lambda *body, before=before: [scoped(*before, *body)], maker, use

    def test_behind_and_in_inner_bodies(self):
        for around, maker, use in self.each_maker():
            self.good_everywhere(*around(maker))
            self.good_everywhere(*around(maker, use, use))
            for wrap in WRAPS:
                self.good([*BEFORE, *main_with(around(maker, wrap([use])))])
                self.good([*BEFORE, *main_with(around(maker, ("yield",), wrap([("shield", [use])]), use))])

    def test_not_before(self):
        for around, maker, use in self.each_maker():
            self.bad_everywhere(*around(use))
            self.bad_everywhere(*around(use, maker))
            self.bad_everywhere(*around(("shield", [use]), maker))

    def test_not_behind_the_body(self):
        for around, maker, use in self.each_maker():
            self.bad_everywhere(scoped(*around(maker)), use)
            for wrap in WRAPS:
                self.bad([*BEFORE, *main_with(around(wrap([maker]), use))])
                self.bad([*BEFORE, *main_with(around(wrap([wrap_plain(maker)]), use))])

    def test_not_in_another_body_of_the_statement(self):
        for around, maker, use in self.each_maker():
            for statement in (
                ("if", True, [maker], [use]),
                ("try", [maker], "e8", [use]),
                ("finally", [maker], [use]),
                ("select", [("after", 1, [maker]), ("after", 1, [use])], None),
                ("select", [("after", 1, [use]), ("after", 1, [maker])], None),
                ("select", [("after", 1, [maker])], [use]),
            ):
                self.bad_everywhere(*around(statement))

    def test_a_new_variable_has_another_name(self):
        for around, maker, use in self.each_maker():
            self.bad_everywhere(*around(maker, maker))
            for wrap in WRAPS:
                self.bad([*BEFORE, *main_with(around(maker, wrap([maker])))])
                self.bad([*BEFORE, *main_with(around(maker, wrap([("shield", [("yield",), maker])])))])
            self.bad_everywhere(("let", "v", 1), *around(maker))
            self.bad_everywhere(*around(maker, ("let", "v", 1)))

    def test_the_name_of_a_variable_that_is_not_visible_any_more(self):
        for around, maker, use in self.each_maker():
            for wrap in WRAPS:
                self.good([*BEFORE, *main_with(around(wrap([maker, use]), maker, use))])
            for statement in (
                ("if", True, [maker], [maker, use]),
                ("try", [maker, use], "e8", [maker, use]),
                ("finally", [maker], [maker, use]),
                ("select", [("after", 1, [maker, use]), ("after", 1, [maker, use])], [maker, use]),
            ):
                self.good_everywhere(*around(statement, maker))

    def test_the_name_of_a_param(self):
        for around, maker, use in self.each_maker():
            body = around(maker, use)
            self.good([*BEFORE, ("f", [("w", "int")], None, body), *main_with([])])
            self.bad([*BEFORE, ("f", [("w", "int"), ("v", "int")], None, body), *main_with([])])
            self.bad([*BEFORE, ("f", [("v", "int")], None, [("shield", body)]), *main_with([])])

    def test_a_name_that_only_the_other_function_has(self):
        self.bad([("f", [("v", "int")], None, [("let", "w", 1)]), *main_with([("emit", "v")])])
        self.bad([("f", [], None, [("let", "w", 1)]), *main_with([("emit", "w")])])
        self.bad([*main_with([("let", "w", 1)]), ("f", [], None, [("emit", "w")])])
        self.bad([("f", [], None, []), *main_with([("emit", "f")])])


def wrap_plain(maker):
    return ("if", True, [maker], [])


class Params(Checked):
    def test_visible_in_the_whole_body(self):
        for kind, use in zip(KINDS, (("emit", "p"), ("while", "p", []), ("close", "p"), ("cancel", "p"))):
            self.good([("f", [("p", kind)], None, [use, ("yield",), use]), *main_with([])])
            for wrap in WRAPS:
                self.good([("f", [("p", kind)], None, [wrap([wrap_plain(use)]), use]), *main_with([])])
            self.bad([("f", [("q", kind)], None, [use]), *main_with([])])


class VariablesInTheirOwnStatement(Checked):
    def test_not_in_the_expression_that_gives_the_value(self):
        self.bad_everywhere(("let", "v", "v"))
        self.bad_everywhere(("let", "v", ("+", 1, ("*", "v", 2))))
        self.bad_everywhere(("open", "v", "v"))
        self.bad_everywhere(("receive", "v", "v"))
        self.bad_everywhere(("call", "v", "takeint", ["v"]))
        self.bad([("f", [("a", "int")], "int", [("return", 1)]), *main_with([("call", "v", "f", ["v"])])])
        self.good([("f", [("a", "int")], "int", [("return", 1)]), *main_with([("call", "v", "f", [2])])])
        self.bad_everywhere(scoped(("spawn", "v", "taketask", ["v"])))
        self.bad_everywhere(scoped(("await", "v", "v")))

    def test_set_takes_a_visible_variable(self):
        self.good_everywhere(("let", "v", 1), ("set", "v", ("+", "v", 1)))
        self.bad_everywhere(("set", "v", 1))
        self.bad_everywhere(("set", "v", 1), ("let", "v", 1))
        self.bad_everywhere(("shield", [("let", "v", 1)]), ("set", "v", 1))
        self.bad_everywhere(("let", "w", 1), ("set", "w", "v"))


class TryVariables(Checked):
    def test_visible_in_the_handler_only(self):
        use = ("emit", "v")
        self.good_everywhere(("try", [("yield",)], "v", [use]))
        self.good_everywhere(("try", [], "v", [("shield", [("if", True, [], [use])]), use]))
        self.bad_everywhere(("try", [use], "v", [use]))
        self.bad_everywhere(("try", [("shield", [use])], "v", []))
        self.bad_everywhere(("try", [], "v", []), use)
        self.bad_everywhere(use, ("try", [], "v", []))

    def test_the_name_is_new(self):
        self.bad_everywhere(("let", "v", 1), ("try", [], "v", []))
        self.bad_everywhere(("let", "v", 1), ("shield", [("try", [], "v", [])]))
        self.bad([("f", [("v", "int")], None, [("try", [], "v", [])]), *main_with([])])
        self.bad_everywhere(("try", [], "v", [("let", "v", 1)]))
        self.bad_everywhere(("try", [], "v", [("shield", [("now", "v")])]))
        self.bad_everywhere(("try", [], "v", [("try", [], "v", [])]))

    def test_the_name_may_be_used_elsewhere(self):
        self.good_everywhere(("try", [("let", "v", 1)], "v", [("emit", "v")]), ("let", "v", 1))
        self.good_everywhere(("try", [("try", [], "v", [])], "v", []), ("try", [], "v", []))
        self.good_everywhere(("try", [("let", "w", True)], "v", [("let", "w", 1), ("emit", "w")]))


class ArmVariables(Checked):
    def with_channel(self, *body):
        return [("open", "ch", 1), *body]

    def test_visible_in_the_body_of_the_arm_only(self):
        use = ("emit", "v")
        arm = ("receive", "v", "ch", [])
        self.good_everywhere(*self.with_channel(("select", [("receive", "v", "ch", [use, ("shield", [use])])], None)))
        for select in (
            ("select", [arm, ("after", 1, [use])], None),
            ("select", [("after", 1, [use]), arm], None),
            ("select", [arm, ("after", "v", [])], None),
            ("select", [arm, ("send", "ch", "v", [])], None),
            ("select", [arm], [use]),
            ("select", [("receive", "v", "v", [])], None),
            ("select", [("receive", "v", "ch", []), ("receive", "w", "ch", [use])], None),
        ):
            self.bad_everywhere(*self.with_channel(select))
        self.bad_everywhere(*self.with_channel(("select", [arm], None), use))
        self.bad_everywhere(*self.with_channel(use, ("select", [arm], None)))

    def test_the_name_is_new(self):
        arm = ("receive", "v", "ch", [])
        self.bad_everywhere(*self.with_channel(("let", "v", 1), ("select", [arm], None)))
        self.bad_everywhere(*self.with_channel(("select", [("receive", "ch", "ch", [])], None)))
        self.bad_everywhere(*self.with_channel(("let", "v", 1), ("shield", [("select", [("after", 1, []), arm], [])])))
        self.bad_everywhere(*self.with_channel(("select", [("receive", "v", "ch", [("let", "v", 1)])], None)))
        self.bad_everywhere(*self.with_channel(("select", [("receive", "v", "ch", [("select", [arm], None)])], None)))

    def test_the_name_may_be_used_elsewhere(self):
        arm = ("receive", "v", "ch", [("emit", "v")])
        self.good_everywhere(*self.with_channel(("select", [arm, arm], [("let", "v", True)]), ("let", "v", 1)))


# Expressions of each kind, where x, b, ch and tk are variables of the four kinds.
OF_KIND = {
    "int": [0, -5, "x", ("+", 1, 2), ("-", "x", 2), ("*", ("+", "x", 1), "x")],
    "bool": [
        True, False, "b", ("<", 1, 2), ("<=", "x", 2), ("=", "x", "x"), ("not", "b"), ("and", "b", True),
        ("or", False, ("<", "x", 1)), ("not", ("=", ("+", 1, 2), 3)),
    ],
    "channel": ["ch"],
    "task": ["tk"],
}
# Expressions whose parts have wrong kinds.
WRONG = [
    (sign, *parts)
    for sign in ("+", "-", "*", "<", "<=", "=")
    for parts in ((True, 1), (1, False), ("b", "x"), ("x", "b"), ("ch", 1), (1, "ch"), ("tk", "tk"), ("ch", "ch"),
                  (("<", 1, 2), 1), (1, ("and", True, True)), ("b", "b"), ("nowhere", 1), (1, "nowhere"))
] + [
    (sign, *parts)
    for sign in ("and", "or")
    for parts in ((True, 1), (1, True), ("x", "b"), ("b", "x"), ("ch", True), (True, "tk"), (("+", 1, 2), True),
                  (True, ("-", 1, 2)), (0, 1), ("nowhere", True), (True, "nowhere"))
] + [("not", part) for part in (0, 1, "x", "ch", "tk", ("+", 1, 2), ("not", 1), "nowhere")]

# Statements with an expression of the named kind.
TAKES = {
    "int": [
        lambda e: ("emit", e), lambda e: ("throw", e), lambda e: ("sleep", e), lambda e: ("using", e, []),
        lambda e: ("open", "n", e), lambda e: ("scope", e, False, []), lambda e: ("scope", e, True, [("yield",)]),
        lambda e: ("select", [("after", e, [])], None), lambda e: ("select", [("after", 1, []), ("after", e, [])], []),
        lambda e: ("send", "ch", e), lambda e: ("select", [("send", "ch", e, [])], None), lambda e: ("set", "x", e),
        lambda e: ("call", None, "takeint", [e]), lambda e: ("spawn", "n", "takeint", [e]),
    ],
    "bool": [
        lambda e: ("if", e, [], []), lambda e: ("while", e, []), lambda e: ("set", "b", e),
        lambda e: ("call", None, "takebool", [e]), lambda e: ("spawn", "n", "takebool", [e]),
    ],
    "channel": [
        lambda e: ("send", e, 1), lambda e: ("receive", "n", e), lambda e: ("close", e), lambda e: ("set", "ch", e),
        lambda e: ("select", [("send", e, 1, [])], None), lambda e: ("select", [("receive", "n", e, [])], None),
        lambda e: ("call", None, "takechannel", [e]), lambda e: ("spawn", "n", "takechannel", [e]),
    ],
    "task": [
        lambda e: ("await", "n", e), lambda e: ("await", None, e), lambda e: ("cancel", e), lambda e: ("set", "tk", e),
        lambda e: ("call", None, "taketask", [e]), lambda e: ("spawn", "n", "taketask", [e]),
    ],
}


class Kinds(Checked):
    def body_with(self, *statements):
        return [("let", "x", 1), ("let", "b", True), ("open", "ch", 1),
                scoped(("spawn", "tk", "quiet", []), *statements)]

    def test_each_statement_takes_its_kind(self):
        for kind, makes in TAKES.items():
            for make in makes:
                for expression in OF_KIND[kind]:
                    self.good([*BEFORE, *main_with(self.body_with(make(expression)))])

    def test_each_statement_takes_no_other_kind(self):
        for kind, makes in TAKES.items():
            for make in makes:
                for other in KINDS:
                    if other != kind:
                        for expression in OF_KIND[other]:
                            self.bad([*BEFORE, *main_with(self.body_with(make(expression)))])
                for expression in (*WRONG, "nowhere"):
                    self.bad([*BEFORE, *main_with(self.body_with(make(expression)))])

    def test_deep_within_other_bodies(self):
        for kind, makes in TAKES.items():
            for make in makes:
                self.good_everywhere(*self.body_with(("shield", [make(OF_KIND[kind][-1])])))
                self.bad_everywhere(*self.body_with(("shield", [make(OF_KIND[KINDS[KINDS.index(kind) - 1]][0])])))

    def test_return_takes_an_int(self):
        for kind in KINDS:
            for expression in OF_KIND[kind]:
                params = [("x", "int"), ("b", "bool"), ("ch", "channel"), ("tk", "task")]
                program = [("f", params, "int", [("return", expression)]), *main_with([])]
                (self.good if kind == "int" else self.bad)(program)

    def test_let_takes_any_kind_and_its_variable_has_it(self):
        for kind in KINDS:
            for expression in OF_KIND[kind]:
                self.good([*BEFORE, *main_with(self.body_with(("let", "new", expression)))])
                for other in KINDS:
                    for make in TAKES[other]:
                        body = self.body_with(("let", "new", expression), make("new"))
                        (self.good if kind == other else self.bad)([*BEFORE, *main_with(body)])
        for expression in (*WRONG, "nowhere"):
            self.bad([*BEFORE, *main_with(self.body_with(("let", "new", expression)))])

    def test_set_takes_the_kind_of_its_variable(self):
        for name, kind in (("x", "int"), ("b", "bool"), ("ch", "channel"), ("tk", "task")):
            for other in KINDS:
                for expression in OF_KIND[other]:
                    body = self.body_with(("set", name, expression))
                    (self.good if kind == other else self.bad)([*BEFORE, *main_with(body)])

    def test_the_kinds_of_new_variables(self):
        makers = [
            ("int", ("await", "new", "tk")), ("int", ("receive", "new", "ch")), ("int", ("now", "new")),
            ("int", ("call", "new", "give", [])), ("channel", ("open", "new", 1)),
            ("task", ("spawn", "new", "quiet", [])),
            ("int", ("let", "new", 5)), ("bool", ("let", "new", False)),
        ]
        for kind, maker in makers:
            for other in KINDS:
                for make in TAKES[other]:
                    body = self.body_with(maker, make("new"))
                    (self.good if kind == other else self.bad)([*BEFORE, *main_with(body)])
        for other in KINDS:
            for make in TAKES[other]:
                inner = [make("new")]
                for statement in (
                    ("try", [], "new", inner), ("select", [("receive", "new", "ch", inner)], None),
                ):
                    body = self.body_with(statement)
                    (self.good if other == "int" else self.bad)([*BEFORE, *main_with(body)])

    def test_the_kinds_of_params(self):
        for kind in KINDS:
            for other in KINDS:
                for make in TAKES[other]:
                    body = self.body_with(make("new"))
                    program = [*BEFORE, ("f", [("new", kind)], None, body), *main_with([])]
                    (self.good if kind == other else self.bad)(program)


class Args(Checked):
    def test_as_many_as_params(self):
        for many in range(5):
            params = [(f"a{k}", "int") for k in range(many)]
            for passed in range(7):
                for statement in (("call", None, "f", [1] * passed), ("spawn", "t", "f", [1] * passed)):
                    program = [("f", params, None, []), *main_with([scoped(statement)])]
                    (self.good if many == passed else self.bad)(program)

    def test_the_kinds_in_their_order(self):
        params = [("x", "int"), ("b", "bool"), ("ch", "channel"), ("tk", "task")]
        names = ["x", "b", "ch", "tk"]
        for word, variable in (("call", None), ("spawn", "n")):
            for at in range(4):
                for name in names:
                    passed = [*names[:at], name, *names[at + 1:]]
                    body = [scoped((word, variable, "g", passed))]
                    program = [("g", params, None, []), ("f", params, None, body), *main_with([])]
                    (self.good if name == names[at] else self.bad)(program)

    def test_main_takes_none(self):
        self.good([("f", [], None, []), *main_with([scoped(("spawn", "t", "main", []))])])
        self.bad(main_with([scoped(("spawn", "t", "main", [1]))]))


class Returns(Checked):
    def with_result(self, body):
        return [("f", [("x", "int"), ("b", "bool"), ("ch", "channel")], "int", body), *main_with([])]

    def test_a_value_exactly_if_there_is_a_result(self):
        for wrap in [lambda b: b[0], *WRAPS]:
            self.good(self.with_result([wrap([("return", 1)]), ("return", "x")]))
            self.bad(self.with_result([wrap([("return", None)]), ("return", "x")]))
            self.good(main_with([wrap([("return", None)])]))
            self.bad(main_with([wrap([("return", 1)])]))
            self.good([("f", [], None, [wrap([wrap_plain(("return", None))])]), *main_with([])])
            self.bad([("f", [], None, [wrap([wrap_plain(("return", 0))])]), *main_with([])])

    def test_a_return_or_a_throw_at_the_end(self):
        for last in (("return", 1), ("return", ("+", "x", 1)), ("throw", 1), ("throw", "x")):
            self.good(self.with_result([last]))
            self.good(self.with_result([("yield",), last]))
            self.bad(self.with_result([last, ("yield",)]))
            self.bad(self.with_result([last, ("let", "y", 1)]))

    def test_a_body_without_a_return(self):
        self.bad(self.with_result([]))
        for last in (("let", "y", 1), ("set", "x", 1), ("emit", 1), ("sleep", 1), ("yield",), ("now", "y"),
                     ("open", "y", 1), ("send", "ch", 1), ("receive", "y", "ch"), ("close", "ch"), scoped()):
            self.bad(self.with_result([last]))
            self.bad(self.with_result([("if", "b", [("return", 1)], []), last]))

    def test_one_way_and_both_ways(self):
        ret, end = [("return", 1)], [("throw", 2)]
        for first in (ret, end):
            for second in (ret, end):
                self.good(self.with_result([("if", "b", first, second)]))
                self.good(self.with_result([("try", first, "e", second)]))
            for other in ([], [("yield",)], [*first, ("yield",)]):
                self.bad(self.with_result([("if", "b", first, other)]))
                self.bad(self.with_result([("if", "b", other, first)]))
                self.bad(self.with_result([("try", first, "e", other)]))
                self.bad(self.with_result([("try", other, "e", first)]))
                self.good(self.with_result([("finally", first, other)]))
                self.bad(self.with_result([("finally", other, first)]))
            for wrap in (
                lambda b: scoped(*b), lambda b: ("scope", "x", True, b), lambda b: ("shield", b),
                    lambda b: ("using", 1, b),
            ):
                self.good(self.with_result([wrap(first)]))
                self.good(self.with_result([("yield",), wrap([("yield",), *first])]))
                self.bad(self.with_result([wrap(first), ("yield",)]))
                self.bad(self.with_result([wrap([])]))
                self.bad(self.with_result([wrap([*first, ("yield",)])]))

    def test_loops_and_selects_do_not_count(self):
        for body in ([("return", 1)], [("throw", 1)]):
            self.bad(self.with_result([("while", True, body)]))
            self.bad(self.with_result([("select", [("after", 1, body)], None)]))
            self.bad(self.with_result([("select", [("after", 1, body)], body)]))
            self.bad(self.with_result([("select", [("receive", "y", "ch", body), ("send", "ch", 1, body)], body)]))
            self.good(self.with_result([("while", True, body), ("return", 1)]))
            self.good(self.with_result([("select", [("after", 1, body)], body), ("throw", 1)]))

    def test_deep_within_others(self):
        body = [("return", 1)]
        for wrap in (
            lambda b: ("using", 1, b), lambda b: ("shield", b), lambda b: scoped(*b), lambda b: ("finally", b, []),
            lambda b: ("try", b, "e", [("throw", "e")]), lambda b: ("if", "b", b, [("return", 2)]),
        ):
            body = [("yield",), wrap(body)]
        self.good(self.with_result(body))
        self.bad(self.with_result([("while", True, body)]))
        self.bad(self.with_result([("if", "b", body, [])]))

    def test_without_a_result_the_body_may_end_anyhow(self):
        self.good(main_with([]))
        self.good(main_with([("if", True, [("return", None)], [])]))
        self.good(main_with([("return", None), ("yield",)]))


class Calls(Checked):
    def test_only_functions_before(self):
        for wrap in [lambda b: b[0], *WRAPS]:
            call = wrap([("call", None, "g", [])])
            plain = ("g", [], None, [])
            self.good([plain, ("f", [], None, [call]), *main_with([])])
            self.bad([("f", [], None, [call]), plain, *main_with([])])
            self.bad([("f", [], None, [call]), *main_with([]), plain])
            self.bad([("g", [], None, [call]), *main_with([])])
            self.good([plain, *main_with([call])])
            self.bad([*main_with([call]), plain])
            self.bad(main_with([wrap([("call", None, "main", [])])]))
            self.good([*main_with([]), ("f", [], None, [wrap([("call", None, "main", [])])])])

    def test_unknown_functions(self):
        for name in ("nowhere", "x", "p", "mains"):
            self.bad([("f", [("p", "int")], None, [("call", None, name, [])]), *main_with([])])
            self.bad(main_with([("let", "x", 1), ("call", None, name, [])]))
            self.bad(main_with([scoped(("spawn", "t", name, []))]))

    def test_calls_in_a_row(self):
        program = [("f0", [], None, [])]
        for k in range(1, 7):
            program.append((f"f{k}", [], None, [("call", None, f"f{k - 1}", []), ("call", None, "f0", [])]))
        self.good([*program, *main_with([("call", None, "f6", [])])])

    def test_a_variable_only_with_a_result(self):
        self.good_everywhere(("call", "v", "give", []))
        self.good_everywhere(("call", None, "give", []))
        self.good_everywhere(("call", None, "quiet", []))
        self.bad_everywhere(("call", "v", "quiet", []))


class Spawns(Checked):
    def test_all_functions_and_itself(self):
        for wrap in [lambda b: b[0], *WRAPS]:
            for name in ("f", "g", "h", "main"):
                body = [scoped(wrap([("spawn", "t", name, [])]))]
                self.good([("f", [], None, []), ("g", [], None, body), *main_with([]), ("h", [], None, [])])
                self.good([("f", [], None, []), *main_with(body), ("g", [], None, []),
                    ("h", [], "int", [("return", 1)])])

    def test_only_within_a_scope(self):
        spawn = ("spawn", "t", "main", [])
        for time in (None, 1):
            for watched in (True, False):
                for wrap in [lambda b: b[0], *WRAPS]:
                    self.good(main_with([("scope", time, watched, [wrap([spawn])])]))
                    self.good(main_with([wrap([("scope", time, watched, [wrap_plain(spawn)])])]))
        for wrap in WRAPS:
            if not makes_a_scope(wrap):
                self.bad(main_with([wrap([spawn])]))
                self.bad(main_with([wrap([wrap_plain(spawn)])]))
                self.bad(main_with([scoped(), wrap([scoped(), spawn])]))
                self.bad(main_with([wrap([spawn]), scoped()]))
        self.bad(main_with([spawn]))
        self.bad(main_with([scoped(), spawn]))
        self.bad(main_with([spawn, scoped()]))

    def test_a_scope_of_its_own_function(self):
        spawning = [("spawn", "t", "main", [])]
        self.bad([("f", [], None, spawning), *main_with([scoped(("call", None, "f", []))])])
        self.bad([("f", [], None, spawning), *main_with([scoped(("spawn", "t", "f", []))])])
        self.good([("f", [], None, [scoped(*spawning)]), *main_with([("call", None, "f", [])])])

    def test_the_variable_is_not_none(self):
        self.bad_everywhere(scoped(("spawn", None, "quiet", [])))


def makes_a_scope(wrap):
    return wrap([])[0] == "scope"


if __name__ == "__main__":
    unittest.main()
