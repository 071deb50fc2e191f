"""Point 13: the written form of programs."""

import copy
import unittest

from helper import deep, sample_program, unchanged_by
from seedbed.notation import format_program

MOST = 1000000000

SAMPLE_TEXT = """\
func work int a int b bool c channel d task
  if b
    return + a -1
  else
    throw 7
  end
end
func quiet none
  return none
end
func main none
  let x 3
  set x * x 2
  emit x
  while false
    yield
  end
  open c 2
  scope none
    spawn t quiet
    await r t
    await none t
    cancel t
    spawn u work 1 true c t
    call v work - x 1 not false c u
    call none quiet
  end
  watch 5
    shield
      using 0
        sleep 1
      end
    end
  end
  try
    try
      throw 1
    finally
      now n
    end
  catch e
    emit e
  end
  send c 1
  receive y c
  select
  send c 4
    emit 4
  receive z c
    emit z
  after 2
  default
    close c
  end
  return none
end
"""


def main_with(body):
    return [("main", [], None, body)]


class Written(unittest.TestCase):
    """Compares the lines of bodies with those that point 13 demands."""

    def check(self, body, *lines):
        expected = "".join([line + "\n" for line in ["func main none", *lines, "end"]])
        self.assertEqual(format_program(main_with(body)), expected)


class Functions(unittest.TestCase):
    def test_the_smallest_program(self):
        self.assertEqual(format_program(main_with([])), "func main none\nend\n")

    def test_the_result_int(self):
        program = [("f", [], "int", [("return", 0)]), *main_with([])]
        self.assertEqual(format_program(program), "func f int\n  return 0\nend\nfunc main none\nend\n")

    def test_params_of_all_four_kinds(self):
        for kind in ("int", "bool", "channel", "task"):
            program = [("f", [("p", kind)], None, []), *main_with([])]
            self.assertEqual(format_program(program), f"func f none p {kind}\nend\nfunc main none\nend\n")
        params = [("a", "task"), ("b", "channel"), ("c", "bool"), ("d2", "int")]
        program = [("f", params, "int", [("throw", "d2")]), *main_with([])]
        self.assertEqual(
            format_program(program),
            "func f int a task b channel c bool d2 int\n  throw d2\nend\nfunc main none\nend\n",
        )

    def test_functions_in_their_order(self):
        names = ["g", "main", "f", "a12345678901", "h1", "h2", "h3", "h4"]
        program = [(name, [], None, []) for name in names]
        self.assertEqual(format_program(program), "".join([f"func {name} none\nend\n" for name in names]))

    def test_a_program_with_all_statements(self):
        self.assertEqual(format_program(sample_program()), SAMPLE_TEXT)

    def test_the_result_is_a_string_in_which_each_line_ends(self):
        text = format_program(sample_program())
        self.assertIs(type(text), str)
        self.assertTrue(text.endswith("end\n"))
        self.assertNotIn("\n\n", text)
        for line in text.splitlines():
            self.assertEqual(line, line.rstrip())
            self.assertNotIn("  ", line.lstrip(" "))
            self.assertEqual((len(line) - len(line.lstrip(" "))) % 2, 0)


class Expressions(Written):
    def test_numbers(self):
        for number in (0, 5, 10, MOST):
            self.check([("emit", number)], f"  emit {number}")
        self.check([("emit", -1)], "  emit -1")
        self.check([("emit", -MOST)], "  emit -1000000000")

    def test_true_and_false_and_one_and_zero(self):
        self.check([("let", "a", True), ("let", "b", False)], "  let a true", "  let b false")
        self.check([("let", "a", 1), ("let", "b", 0)], "  let a 1", "  let b 0")

    def test_names(self):
        self.check([("let", "x", 1), ("let", "z9", "x")], "  let x 1", "  let z9 x")

    def test_each_sign(self):
        for sign in ("+", "-", "*", "<", "<=", "="):
            self.check([("let", "v", (sign, 2, -3))], f"  let v {sign} 2 -3")
        for sign in ("and", "or"):
            self.check([("let", "v", (sign, True, False))], f"  let v {sign} true false")
        self.check([("let", "v", ("not", True))], "  let v not true")

    def test_nested_expressions(self):
        self.check(
            [("let", "x", ("-", ("*", 2, -3), ("+", 4, ("-", 5, 6))))],
            "  let x - * 2 -3 + 4 - 5 6",
        )
        self.check(
            [("let", "x", ("and", ("not", ("<", 1, 2)), ("or", ("=", 3, 4), ("<=", 5, 6))))],
            "  let x and not < 1 2 or = 3 4 <= 5 6",
        )

    def test_expressions_of_the_depth_8(self):
        self.check([("emit", deep("+", 8, 1, 2))], "  emit + + + + + + + 1 2 2 2 2 2 2 2")
        expression = True
        for _ in range(7):
            expression = ("not", expression)
        self.check([("let", "x", expression)], "  let x not not not not not not not true")
        expression = 0
        for number in range(1, 8):
            expression = ("*", number, expression)
        self.check([("emit", expression)], "  emit * 7 * 6 * 5 * 4 * 3 * 2 * 1 0")


class PlainStatements(Written):
    def test_let_set_emit_throw(self):
        self.check(
            [("let", "x", ("+", 1, 2)), ("set", "x", ("-", "x", -7)), ("emit", ("*", "x", 3)), ("throw", -9)],
            "  let x + 1 2", "  set x - x -7", "  emit * x 3", "  throw -9",
        )

    def test_let_of_each_kind(self):
        program = [
            ("f", [("c", "channel"), ("t", "task")], None, [("let", "d", "c"), ("let", "u", "t"), ("set", "d", "c")]),
            *main_with([]),
        ]
        self.assertEqual(
            format_program(program),
            "func f none c channel t task\n  let d c\n  let u t\n  set d c\nend\nfunc main none\nend\n",
        )

    def test_return_with_and_without_a_value(self):
        self.check([("return", None)], "  return none")
        program = [("f", [("a", "int")], "int", [("return", ("+", "a", 1))]), *main_with([])]
        self.assertEqual(
            format_program(program), "func f int a int\n  return + a 1\nend\nfunc main none\nend\n"
        )

    def test_await_with_and_without_a_variable(self):
        self.check(
            [("scope", None, False, [("spawn", "t", "main", []), ("await", "v", "t"), ("await", None, "t")])],
            "  scope none", "    spawn t main", "    await v t", "    await none t", "  end",
        )

    def test_cancel(self):
        self.check(
            [("scope", None, False, [("spawn", "t", "main", []), ("cancel", "t")])],
            "  scope none", "    spawn t main", "    cancel t", "  end",
        )

    def test_channels(self):
        self.check(
            [
                ("open", "c", ("+", 1, 1)), ("send", "c", ("-", 0, 1)), ("send", "c", -1),
                ("receive", "v", "c"), ("close", "c"),
            ],
            "  open c + 1 1", "  send c - 0 1", "  send c -1", "  receive v c", "  close c",
        )

    def test_sleep_yield_now(self):
        self.check(
            [("sleep", 0), ("sleep", ("-", 1, 2)), ("yield",), ("now", "t")],
            "  sleep 0", "  sleep - 1 2", "  yield", "  now t",
        )


class SpawnAndCall(unittest.TestCase):
    def text_of(self, params, statements):
        program = [("f", params, "int", [("return", 1)]), *main_with([("scope", None, False, statements)])]
        lines = format_program(program).split("\n")
        return lines[lines.index("  scope none") + 1:lines.index("  end")]

    def test_without_args(self):
        statements = [("spawn", "t", "f", []), ("call", "v", "f", []), ("call", None, "f", [])]
        self.assertEqual(
            self.text_of([], statements), ["    spawn t f", "    call v f", "    call none f"]
        )

    def test_with_one_to_four_args(self):
        args = [-5, 6, ("+", 7, ("*", 8, -9)), 0]
        words = ["-5", "6", "+ 7 * 8 -9", "0"]
        for many in range(1, 5):
            with self.subTest(many=many):
                params = [("abcd"[k], "int") for k in range(many)]
                passed = args[:many]
                statements = [("spawn", "t", "f", passed), ("call", "v", "f", passed), ("call", None, "f", passed)]
                end = " ".join(words[:many])
                self.assertEqual(
                    self.text_of(params, statements),
                    [f"    spawn t f {end}", f"    call v f {end}", f"    call none f {end}"],
                )

    def test_with_args_of_other_kinds(self):
        params = [("a", "bool"), ("b", "channel"), ("c", "task")]
        statements = [
            ("spawn", "t", "main", []), ("open", "ch", 1), ("spawn", "u", "f", [("not", False), "ch", "t"]),
            ("call", "v", "f", [True, "ch", "u"]),
        ]
        self.assertEqual(
            self.text_of(params, statements),
            ["    spawn t main", "    open ch 1", "    spawn u f not false ch t", "    call v f true ch u"],
        )


class StatementsWithBodies(Written):
    def test_if(self):
        self.check(
            [("if", ("<", 1, 2), [("emit", 1), ("emit", 2)], [("emit", 3)])],
            "  if < 1 2", "    emit 1", "    emit 2", "  else", "    emit 3", "  end",
        )
        self.check([("if", True, [], [])], "  if true", "  else", "  end")
        self.check([("if", True, [("yield",)], [])], "  if true", "    yield", "  else", "  end")
        self.check([("if", False, [], [("yield",)])], "  if false", "  else", "    yield", "  end")

    def test_while(self):
        self.check(
            [("while", ("not", True), [("emit", 1), ("yield",)]), ("emit", 2)],
            "  while not true", "    emit 1", "    yield", "  end", "  emit 2",
        )
        self.check([("while", True, [])], "  while true", "  end")

    def test_try(self):
        self.check(
            [("try", [("throw", 1)], "e", [("emit", "e")])],
            "  try", "    throw 1", "  catch e", "    emit e", "  end",
        )
        self.check([("try", [], "code", [])], "  try", "  catch code", "  end")

    def test_finally(self):
        self.check(
            [("finally", [("emit", 1)], [("emit", 2)])],
            "  try", "    emit 1", "  finally", "    emit 2", "  end",
        )
        self.check([("finally", [], [])], "  try", "  finally", "  end")

    def test_scope_watched_and_not_with_a_time_and_without(self):
        body = [("emit", 1)]
        self.check([("scope", None, False, body)], "  scope none", "    emit 1", "  end")
        self.check([("scope", None, True, body)], "  watch none", "    emit 1", "  end")
        self.check([("scope", ("+", 1, 2), False, body)], "  scope + 1 2", "    emit 1", "  end")
        self.check([("scope", -3, True, body)], "  watch -3", "    emit 1", "  end")
        self.check([("scope", 0, False, [])], "  scope 0", "  end")
        self.check([("scope", 0, True, [])], "  watch 0", "  end")

    def test_shield(self):
        self.check([("shield", [("emit", 1)])], "  shield", "    emit 1", "  end")
        self.check([("shield", [])], "  shield", "  end")

    def test_using(self):
        self.check([("using", ("*", 2, 3), [("emit", 1)])], "  using * 2 3", "    emit 1", "  end")
        self.check([("using", 7, [])], "  using 7", "  end")


class Selects(unittest.TestCase):
    def check(self, arms, default, *lines):
        program = main_with([("open", "c", 1), ("select", arms, default), ("emit", 0)])
        expected = ["func main none", "  open c 1", *lines, "  emit 0", "end"]
        self.assertEqual(format_program(program), "".join([line + "\n" for line in expected]))

    def test_each_arm_without_a_default(self):
        self.check(
            [("send", "c", ("+", 1, 2), [("emit", 1)])], None,
            "  select", "  send c + 1 2", "    emit 1", "  end",
        )
        self.check(
            [("receive", "v", "c", [("emit", "v")])], None,
            "  select", "  receive v c", "    emit v", "  end",
        )
        self.check(
            [("after", ("-", 0, 1), [("emit", 1)])], None,
            "  select", "  after - 0 1", "    emit 1", "  end",
        )

    def test_each_arm_with_an_empty_body(self):
        self.check([("send", "c", -4, [])], None, "  select", "  send c -4", "  end")
        self.check([("receive", "v", "c", [])], None, "  select", "  receive v c", "  end")
        self.check([("after", 5, [])], None, "  select", "  after 5", "  end")

    def test_a_default(self):
        self.check(
            [("after", 5, [("emit", 1)])], [("emit", 2), ("yield",)],
            "  select", "  after 5", "    emit 1", "  default", "    emit 2", "    yield", "  end",
        )

    def test_an_empty_default_is_not_none(self):
        self.check([("after", 5, [])], [], "  select", "  after 5", "  default", "  end")
        self.check([("after", 5, [])], None, "  select", "  after 5", "  end")

    def test_four_arms_in_their_order(self):
        self.check(
            [
                ("after", 9, []),
                ("receive", "v", "c", [("emit", "v"), ("send", "c", "v")]),
                ("receive", "v", "c", []),
                ("send", "c", 1, [("receive", "v", "c")]),
            ],
            [("close", "c")],
            "  select",
            "  after 9",
            "  receive v c",
            "    emit v",
            "    send c v",
            "  receive v c",
            "  send c 1",
            "    receive v c",
            "  default",
            "    close c",
            "  end",
        )

    def test_a_select_within_an_arm_and_a_default(self):
        inner = ("select", [("after", 1, [("emit", 1)])], [("emit", 2)])
        self.check(
            [("after", 2, [inner])], [inner],
            "  select",
            "  after 2",
            "    select",
            "    after 1",
            "      emit 1",
            "    default",
            "      emit 2",
            "    end",
            "  default",
            "    select",
            "    after 1",
            "      emit 1",
            "    default",
            "      emit 2",
            "    end",
            "  end",
        )


class Nesting(Written):
    def test_each_statement_with_bodies_within_each_other(self):
        body = [("yield",)]
        body = [("select", [("after", 1, body)], None)]
        body = [("using", 1, body)]
        body = [("shield", body)]
        body = [("scope", None, False, body)]
        body = [("finally", body, [("emit", 2)])]
        body = [("try", body, "e", [("emit", "e")])]
        self.check(
            [("while", True, body), ("emit", 3)],
            "  while true",
            "    try",
            "      try",
            "        scope none",
            "          shield",
            "            using 1",
            "              select",
            "              after 1",
            "                yield",
            "              end",
            "            end",
            "          end",
            "        end",
            "      finally",
            "        emit 2",
            "      end",
            "    catch e",
            "      emit e",
            "    end",
            "  end",
            "  emit 3",
        )

    def test_bodies_8_deep_in_the_second_body(self):
        body = [("emit", 8)]
        for number in range(7, 0, -1):
            body = [("emit", number), ("if", False, [], body)]
        lines = []
        for level in range(1, 8):
            margin = "  " * level
            lines.extend([f"{margin}emit {level}", f"{margin}if false", f"{margin}else"])
        lines.append("  " * 8 + "emit 8")
        lines.extend(["  " * level + "end" for level in range(7, 0, -1)])
        self.check(body, *lines)


class TheProgramStays(unittest.TestCase):
    def test_the_program_is_not_changed(self):
        self.assertTrue(unchanged_by(format_program, sample_program()))

    def test_the_same_program_is_written_the_same_again(self):
        program = sample_program()
        self.assertEqual(format_program(program), format_program(program))

    def test_a_list_at_two_places_is_written_at_both(self):
        body = [("emit", 1)]
        program = main_with([("if", True, body, body)])
        before = copy.deepcopy(program)
        self.assertEqual(
            format_program(program), "func main none\n  if true\n    emit 1\n  else\n    emit 1\n  end\nend\n"
        )
        self.assertEqual(program, before)


if __name__ == "__main__":
    unittest.main()
