"""Points 13 and 14: parse_program reads the written form of valid programs, and nothing else."""

import random
import unittest

from helper import ProgramMaker, deep, main_with, program_of_length, repeats_a_list, sample_program, shared_lists
from seedbed.checks import check_program, parse_program
from seedbed.errors import BadProgram, BadText
from seedbed.notation import format_program

SAMPLE = format_program(sample_program())


class Read(unittest.TestCase):
    def back(self, program):
        """The written form of a program is read back equal, with the same kinds of values."""
        result = parse_program(format_program(program))
        self.assertEqual(repr(result), repr(program))

    def refused(self, text):
        with self.assertRaises((BadText, BadProgram)):
            parse_program(text)

    def refused_or_exact(self, text):
        """A text is refused, or it is the written form of the valid program that is read."""
        try:
            program = parse_program(text)
        except (BadText, BadProgram):
            return False
        check_program(program)
        self.assertEqual(format_program(program), text)
        return True


class WrittenForms(Read):
    def test_the_smallest_program(self):
        self.assertEqual(parse_program("func main none\nend\n"), [("main", [], None, [])])

    def test_a_text_that_is_written_here(self):
        text = "\n".join([
            "func half int n int c channel", "  try", "    if < n 0", "      throw -3", "    else",
            "      return * n 5", "    end", "  catch e", "    return e", "  end", "end", "func main none",
            "  open c 2", "  watch none", "    spawn t half 7 c", "    await none t", "  end", "  select",
            "  after 4", "    emit 1", "  receive x c", "  default", "  end", "end", "",
        ])
        self.assertEqual(repr(parse_program(text)), repr([
            ("half", [("n", "int"), ("c", "channel")], "int", [
                ("try", [("if", ("<", "n", 0), [("throw", -3)], [("return", ("*", "n", 5))])], "e", [("return", "e")]),
            ]),
            ("main", [], None, [
                ("open", "c", 2),
                ("scope", None, True, [("spawn", "t", "half", [7, "c"]), ("await", None, "t")]),
                ("select", [("after", 4, [("emit", 1)]), ("receive", "x", "c", [])], []),
            ]),
        ]))

    def test_a_program_with_all_statements(self):
        self.back(sample_program())

    def test_many_programs(self):
        for seed in range(200):
            self.back(ProgramMaker(seed).program())

    def test_each_statement_in_each_of_its_forms(self):
        scope = ("scope", None, False, [("spawn", "t", "main", []), ("await", "v", "t"), ("await", None, "t"),
                                        ("cancel", "t")])
        for statement in (
            ("let", "x", 1), ("emit", ("+", -1, 0)), ("if", True, [], []), ("if", False, [("yield",)], []),
            ("if", True, [], [("yield",)]), ("while", ("not", False), []), ("return", None), ("throw", 10 ** 9),
            ("try", [], "e", []), ("try", [("yield",)], "e", [("yield",)]), ("finally", [], []),
            ("finally", [("yield",)], [("yield",)]), ("scope", None, False, []), ("scope", None, True, []),
            ("scope", 3, False, [("yield",)]), ("scope", ("-", 1, 2), True, [("yield",)]), ("shield", []),
            ("shield", [("yield",)]), ("using", 7, []), ("using", ("*", 1, 2), [("yield",)]), scope,
            ("open", "c", 1), ("sleep", -5), ("yield",), ("now", "n"), ("select", [("after", 1, [])], None),
            ("select", [("after", 1, [])], []), ("select", [("after", ("+", 1, 2), [("yield",)])] * 4, [("yield",)]),
        ):
            self.back(main_with([statement]))
            self.back(main_with([("yield",), ("shield", [statement, statement[:0] or ("yield",)]), ("yield",)]))
        self.back(main_with([
            ("open", "c", 0), ("send", "c", ("+", 1, 2)), ("receive", "x", "c"), ("set", "x", "x"), ("close", "c"),
            ("select", [("send", "c", 1, []), ("receive", "y", "c", [("emit", "y")]), ("after", "x", [])], None),
        ]))

    def test_functions(self):
        for kind in ("int", "bool", "channel", "task"):
            self.back([("f", [("a", kind)], None, []), *main_with([])])
        self.back([("f", [("a", "task"), ("b", "bool"), ("c", "int"), ("d", "channel")], "int", [("throw", 1)]),
                   *main_with([])])
        self.back([*main_with([]), *[(f"f{k}", [], None, []) for k in range(7)]])

    def test_calls_and_spawns_with_args(self):
        for many in range(5):
            params = [(f"p{k}", "int") for k in range(many)]
            args = [1, ("+", 2, ("*", 3, 4)), -5, ("-", 6, 7)][:many]
            self.back([
                ("f", params, "int", [("return", 1)]),
                *main_with([
                    ("call", "x", "f", args), ("call", None, "f", args),
                    ("scope", 1, False, [("spawn", "t", "f", args)]),
                ]),
            ])

    def test_the_bounds(self):
        self.back(main_with([("emit", deep("+", 8, 1, 2))]))
        self.back(main_with([("yield",)] * 160))
        body = []
        for _ in range(7):
            body = [("shield", body)]
        self.back(main_with(body))
        self.back(main_with([("let", "a23456789012", 10 ** 9), ("let", "b", -10 ** 9)]))

    def test_numbers_and_truths_have_their_kinds(self):
        (_, _, _, body), = parse_program("func main none\n  let a 1\n  let b true\n  let c 0\n  let d false\nend\n")
        self.assertEqual(repr(body), repr([("let", "a", 1), ("let", "b", True), ("let", "c", 0), ("let", "d", False)]))

    def test_lists_are_new_and_stand_at_one_place(self):
        first, second = parse_program(SAMPLE), parse_program(SAMPLE)
        self.assertFalse(repeats_a_list(first))
        self.assertFalse(shared_lists(first, second))
        first[2][3].clear()
        self.assertEqual(parse_program(SAMPLE), second)
        empty = parse_program("func main none\n  if true\n  else\n  end\n  select\n  after 1\n  default\n  end\nend\n")
        self.assertFalse(repeats_a_list(empty))


class ChangedTexts(Read):
    def test_a_sign_left_out(self):
        for at in range(len(SAMPLE)):
            if SAMPLE[at] in " \n":
                self.refused(SAMPLE[:at] + SAMPLE[at + 1:])
            else:
                self.refused_or_exact(SAMPLE[:at] + SAMPLE[at + 1:])

    def test_a_sign_put_in(self):
        for at in range(len(SAMPLE) + 1):
            for mark in " \n\t#":
                self.refused(SAMPLE[:at] + mark + SAMPLE[at:])
            for mark in "0e-+A~\r\x00\x7f\u00e4\u0663\u2028":
                self.refused_or_exact(SAMPLE[:at] + mark + SAMPLE[at:])

    def test_a_sign_replaced(self):
        for at in range(len(SAMPLE)):
            for mark in " \n\t1xA-=~\u00a0\u0661":
                if SAMPLE[at] != mark:
                    self.refused_or_exact(SAMPLE[:at] + mark + SAMPLE[at + 1:])

    def test_white_space_replaced(self):
        for at, sign in enumerate(SAMPLE):
            if sign in " \n":
                for mark in "\t\n \r\x0b\x0c\x1c\x85\xa0\u2028\u3000_":
                    if mark != sign:
                        self.refused(SAMPLE[:at] + mark + SAMPLE[at + 1:])

    def test_a_line_left_out_or_twice_or_exchanged(self):
        lines = SAMPLE.splitlines(keepends=True)
        kept = 0
        for at in range(len(lines)):
            kept += self.refused_or_exact("".join(lines[:at] + lines[at + 1:]))
            kept += self.refused_or_exact("".join(lines[:at] + lines[at:at + 1] + lines[at:]))
            if at > 0 and lines[at - 1] != lines[at]:
                exchanged = [*lines[:at - 1], lines[at], lines[at - 1], *lines[at + 1:]]
                kept += self.refused_or_exact("".join(exchanged))
        self.assertLess(kept, len(lines))
        for at in range(len(lines)):
            if lines[at].split()[0] in ("end", "else", "catch", "finally", "func"):
                self.refused("".join(lines[:at] + lines[at + 1:]))
                self.refused("".join(lines[:at] + lines[at:at + 1] + lines[at:]))

    def test_words_left_out_twice_or_exchanged(self):
        lines = SAMPLE.splitlines()
        for at, line in enumerate(lines):
            words = line.split(" ")
            for k in range(len(words)):
                for changed in (words[:k] + words[k + 1:], words[:k + 1] + words[k:],
                    [*words[:k], "none", *words[k + 1:]],
                                [*words[:k], "x", *words[k + 1:]], [*words, words[k]], [words[k], *words],
                                words[:k] + words[k:][::-1]):
                    text = "\n".join([*lines[:at], " ".join(changed), *lines[at + 1:], ""])
                    self.refused_or_exact(text)

    def test_a_wrong_indent(self):
        lines = SAMPLE.splitlines(keepends=True)
        for at, line in enumerate(lines):
            for more in (" ", "    ", "\t"):
                self.refused("".join([*lines[:at], more + line, *lines[at + 1:]]))
            # The line of an arm can become a statement in the body of the arm before it.
            self.refused_or_exact("".join([*lines[:at], "  " + line, *lines[at + 1:]]))
            for less in (1, 2):
                if line.startswith("  "):
                    self.refused("".join([*lines[:at], line[less:], *lines[at + 1:]]))
        self.refused("".join(["  " + line for line in lines]))
        self.refused("".join([line.replace("  ", " ") for line in lines]))

    def test_spaces(self):
        lines = SAMPLE.splitlines()
        for at, line in enumerate(lines):
            self.refused("\n".join([*lines[:at], line + " ", *lines[at + 1:], ""]))
            self.refused("\n".join([*lines[:at], "", line, *lines[at + 1:], ""]))
            self.refused("\n".join([*lines[:at], "  ", line, *lines[at + 1:], ""]))
            inner = line.lstrip(" ")
            if " " in inner:
                margin = line[:len(line) - len(inner)]
                self.refused("\n".join([*lines[:at], margin + inner.replace(" ", "  ", 1), *lines[at + 1:], ""]))

    def test_newlines(self):
        self.refused(SAMPLE[:-1])
        self.refused(SAMPLE + "\n")
        self.refused("\n" + SAMPLE)
        self.refused(SAMPLE.replace("\n", "\r\n"))
        self.refused(SAMPLE.replace("\n", "\r"))
        self.refused(SAMPLE.replace("\n", " "))
        self.refused(SAMPLE.replace("\n", "\n\n", 1))

    def test_programs_with_random_changes(self):
        chance = random.Random(11)
        for seed in range(60):
            text = format_program(ProgramMaker(seed).program())
            for _ in range(20):
                at, to = sorted([chance.randrange(len(text) + 1), chance.randrange(len(text) + 1)])
                other = chance.randrange(len(text))
                self.refused_or_exact(text[:at] + text[other:other + chance.randrange(9)] + text[min(to, at + 5):])


class Words(Read):
    def refused_emit(self, *words):
        for word in words:
            self.refused(f"func main none\n  emit {word}\nend\n")
            self.refused(f"func main none\n  emit + 1 {word}\nend\n")
            self.refused(f"func main none\n  emit + {word} 1\nend\n")

    def test_numbers(self):
        for number in ("0", "1", "-1", "10", "1000000000", "-1000000000", "999999999"):
            self.assertEqual(parse_program(f"func main none\n  emit {number}\nend\n"),
                main_with([("emit", int(number))]))
        self.refused_emit(
            "01", "00", "-0", "+1", "-01", "--1", "1_0", "1.0", "1e3", "0x1", "1000000001", "-1000000001", "- 1",
            "10000000000", "9" * 5000, "-" + "9" * 5000, "0" * 11, "1-", "\u0661", "\u00b2", "1\u0661", "1 2", "", "-",
            "inf", "nan", "2147483648", "18446744073709551616",
        )

    def test_words_of_other_forms(self):
        self.refused_emit("True", "None", "none", "(1)", "1,", "x", "X", "emit", "'a'", "\"", "end", "true", "not 1")
        for result in ("None", "bool", "INT", "", "int int", "channel", "0"):
            self.refused(f"func main {result}\nend\n")
            self.refused(f"func f {result}\n  return 1\nend\nfunc main none\nend\n")
        for head in ("func main", "func", "main none", "Func main none", "func none main", "func main none a",
            "fun main none",
                     "func main none a int", "func main none a int b", "func  none", "func main none ", "end", ""):
            self.refused(head + "\nend\n")

    def test_signs_with_too_few_and_too_many_parts(self):
        for words in ("+ 1", "+", "+ 1 2 3", "+ + 1 2", "not", "* 1 2 3 4", "1 + 2", "+ 1 none", "/ 1 2", "% 1 2",
            "(+ 1 2)",
                      "+ 1 + 2", "+ 1 + 2 3 4", "+1 2", "+ 1, 2", "- 1", "= 1 2", "< 1", "not true"):
            self.refused(f"func main none\n  emit {words}\nend\n")
        for words in ("not", "not true true", "not not", "and true", "or", "and true true true", "< 1", "< 1 2 3",
            "= 1",
                      "== 1 2", "> 1 2", "not 1", "and 1 2", "< true 1"):
            self.refused(f"func main none\n  let x {words}\nend\n")
            self.refused(f"func main none\n  while {words}\n  end\nend\n")

    def test_the_depth_of_expressions(self):
        for depth in range(1, 9):
            parse_program("func main none\n  emit " + "+ " * (depth - 1) + "1" + " 2" * (depth - 1) + "\nend\n")
        for depth in (9, 10, 100, 4900):
            self.refused("func main none\n  emit " + "+ " * (depth - 1) + "1" + " 2" * (depth - 1) + "\nend\n")
            self.refused("func main none\n  emit " + "+ " * (depth - 1) + "1 2\nend\n")
            self.refused("func main none\n  let x " + "not " * (depth - 1) + "true\nend\n")

    def test_lines_in_other_places(self):
        for lines in (
            ["else"], ["catch e"], ["finally"], ["default"], ["after 1"], ["end"], ["func f none"], ["none"], ["watch"],
            ["scope"], ["if"], ["if true"], ["if true", "end"], ["if true", "else"], ["if true", "else", "else", "end"],
            ["try"], ["try", "end"], ["try", "catch", "end"], ["try", "catch none", "end"], ["try", "catch e e", "end"],
            ["try", "finally 1", "end"], ["try 1", "finally", "end"], ["try", "catch e", "finally", "end"],
            ["try", "finally", "catch e", "end"], ["select", "end"], ["select"], ["select", "default", "end"],
            ["select 1", "after 1", "end"], ["select", "after 1", "default", "default", "end"],
            ["select", "after 1", "default", "after 1", "end"], ["select", "after 1", "default 1", "end"],
            ["select", "after 1"], ["select", "after 1", "end 1"], ["select", "sleep 1", "end"],
            ["select", "after 1", "else", "end"], ["select", *["after 1"] * 5, "end"], ["while true"],
            ["while true", "else", "end"], ["shield"], ["shield 1", "end"], ["using 1"], ["using", "end"],
            ["scope none"], ["scope none none", "end"], ["scope 1 2", "end"], ["scope true", "end"], ["watch", "end"],
            ["yield 1"], ["yield none"], ["return"], ["return 1"], ["return none none"], ["call none"], ["call"],
            ["now none"], ["now"], ["emit"], ["emit 1 2"], ["let x"], ["let 1 x"], ["spawn t main"],
            ["throw none"], ["close c"], ["unveil"], ["enter none"], ["  yield"], ["    yield"], [" yield"], ["func"],
        ):
            self.refused("func main none\n" + "".join([f"  {line}\n" for line in lines]) + "end\n")

    def test_texts_that_are_no_programs(self):
        for text in ("", "\n", " ", "end", "end\n", "func", "func main none", "func main none\n", "func main none\nend",
                     "func main none\nend\nend\n", "func main none\nend\n\n", "func f none\nend\n", "x" * 20000,
                     "[('main', [], None, [])]", "func main none end\n", "func main none\n  end\n", "\x00", "\ud800",
                     "func main none\nfunc f none\nend\n", " func main none\nend\n", "func main none\nend \n"):
            self.refused(text)

    def test_programs_that_are_not_valid(self):
        for text in (
            "func main none\n  emit x\nend\n", "func main int\n  return 1\nend\n", "func main none a int\nend\n",
            "func main none\n  let none 1\nend\n", "func main none\n  let x 1\n  let x 2\nend\n",
            "func main none\n  spawn t main\nend\n", "func main none\n  call none main\nend\n",
            "func f int\nend\nfunc main none\nend\n", "func main none\n  emit true\nend\n",
            "func main none\nend\nfunc main none\nend\n", "func f none a int a int\nend\nfunc main none\nend\n",
            "func f none a b\nend\nfunc main none\nend\n", "func a234567890123 none\nend\nfunc main none\nend\n",
            "func f none a int b int c int d int e int\nend\nfunc main none\nend\n",
            "".join([f"func f{k} none\nend\n" for k in range(8)]) + "func main none\nend\n",
            "func main none\n" + "  yield\n" * 161 + "end\n",
        ):
            self.refused(text)


class Lengths(Read):
    def test_texts_of_20000_characters_and_more(self):
        for text in ("x" * 20001, " " * 20001, "\n" * 20000, "\n" * 20001, "end\n" * 5000, "(" * 10 ** 6, SAMPLE * 50):
            self.refused(text)
        self.refused("func main none\n" + "  yield\n" * 2490 + "end\n")
        self.refused("func main none\n  emit 1" + " 1" * 9980 + "\nend\n")

    def test_the_written_form_of_a_long_program(self):
        for length in (19999, 20000, 20001, 20002, 20100):
            text = format_program(program_of_length(length))
            self.assertEqual(len(text), length)
            if length <= 20000:
                self.assertEqual(format_program(parse_program(text)), text)
            else:
                self.refused(text)

    def test_deep_texts(self):
        for word in ("shield", "try", "if true", "while true", "scope none", "using 1", "select", "select\nafter 1"):
            text = "func main none\n"
            for level in range(1, 120):
                text += "".join(["  " * level + line + "\n" for line in word.split("\n")])
            self.refused(text)
            self.refused(text[:20000])
        lines = ["  " * level + "shield\n" for level in range(1, 98)]
        ends = ["  " * level + "end\n" for level in range(97, 0, -1)]
        self.refused("func main none\n" + "".join(lines + ends) + "end\n")
        for depth in (7, 8, 9):
            text = "func main none\n" + "".join(lines[:depth] + ends[97 - depth:]) + "end\n"
            if depth == 7:
                self.assertEqual(format_program(parse_program(text)), text)
            else:
                self.refused(text)


if __name__ == "__main__":
    unittest.main()
