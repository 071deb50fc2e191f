"""Points 19 to 21: which codes are valid."""

import copy
import random
import unittest

from codes import COUNTS, END, LEAVE, MOST, RESUME, SETTLE, YIELD, function
from helper import ODD_VALUES, RESERVED, ProgramMaker, part_at, paths, replaced, sample_program, unchanged_by
from seedbed.code import check_code
from seedbed.compiler import compile_program
from seedbed.errors import BadCode

PUSH = ("push", 1)
DROP = ("store", 0)


def sample_code():
    """A new valid code, written by hand, with all instructions."""
    return [
        function([("load", 0), ("push", -1), ("apply", "+"), ("complete", "return")], count=2, slots=2, name="work"),
        function([
            ("push", True), ("apply", "not"), ("branch", 4), ("jump", 2 + 2),
            ("push", 3), ("ask", "open", 1, 0), ("enter", False, False), ("push", 9), ("enter", True, True),
            ("push", 1), ("push", False), ("spawn", "work", 2, 1), ("push", 1), ("push", 2), ("call", "work", 2, 2),
            SETTLE, LEAVE,
            ("load", 0), ("push", 4), ("load", 0), ("push", 2),
            ("select", [("send", None), ("receive", 3), ("after", None)], True), ("store", 4),
            ("push", 7), ("complete", "throw"), ("jump", 29),
            ("catch", 3), ("load", 3), ("ask", "emit", 1, None),
            SETTLE, ("ask", "shield", 0, None), YIELD, ("ask", "unveil", 0, None), RESUME,
            END,
        ], [(9, 15, 15 + 1, "clean", 0), (17, 25, 26, "catch", 0), (17, 29, 30, "clean", 0), (31, 32, 32, "clean", 0)],
            name="main"),
    ]


class Checked(unittest.TestCase):
    def good(self, code):
        self.assertIsNone(check_code(code))

    def bad(self, code):
        with self.assertRaises(BadCode):
            check_code(code)

    def good_one(self, instructions, guards=(), **more):
        self.good([function(instructions, guards, **more)])

    def bad_one(self, instructions, guards=(), **more):
        self.bad([function(instructions, guards, **more)])


class ValidCodes(Checked):
    def test_a_code_with_all_instructions(self):
        self.good(sample_code())
        words = {instruction[0] for part in sample_code() for instruction in part[3]}
        self.assertEqual(words, {
            "push", "load", "store", "apply", "jump", "branch", "ask", "spawn", "select", "enter", "call", "complete",
            "settle", "resume", "leave", "catch",
        })

    def test_compiled_programs(self):
        self.good(compile_program(sample_program()))
        for seed in range(150):
            self.good(compile_program(ProgramMaker(seed).program()))

    def test_no_instructions(self):
        self.good_one([])
        self.good_one([], slots=0)
        self.good([function([], name=f"f{k}") for k in range(8)])

    def test_main_need_not_exist(self):
        self.good([function([END], name="g", count=1)])
        self.good([function([END], name="main", count=4)])

    def test_the_code_stays(self):
        self.assertTrue(unchanged_by(check_code, sample_code()))
        self.assertTrue(unchanged_by(check_code, compile_program(sample_program())))

    def test_a_list_at_two_places_is_allowed(self):
        instructions, guards = [YIELD, END], []
        self.good([("f", 0, 0, instructions, guards), ("g", 0, 0, instructions, guards)])


class NoCodes(Checked):
    def test_values_of_all_kinds(self):
        for value in ODD_VALUES:
            self.bad(value)
            self.bad([value])
            self.bad([value, function([])])

    def test_values_of_all_kinds_in_place_of_each_part(self):
        for path in list(paths(sample_code())):
            for value in ODD_VALUES:
                changed = replaced(sample_code(), path, value)
                try:
                    self.assertIsNone(check_code(changed))
                except BadCode:
                    pass

    def test_each_tuple_as_a_list_and_each_list_as_a_tuple(self):
        for path in list(paths(sample_code())):
            part = part_at(sample_code(), path)
            if isinstance(part, tuple):
                self.bad(replaced(sample_code(), path, list(part)))
            if isinstance(part, list):
                self.bad(replaced(sample_code(), path, tuple(part)))

    def test_each_tuple_with_a_part_more_or_less(self):
        for path in list(paths(sample_code())):
            part = part_at(sample_code(), path)
            if isinstance(part, tuple):
                for more in (None, 0, True, "x", [], ()):
                    self.bad(replaced(sample_code(), path, (*part, more)))
                self.bad(replaced(sample_code(), path, part[:-1]))
                self.bad(replaced(sample_code(), path, part[1:]))
                self.bad(replaced(sample_code(), path, ()))

    def test_each_number_as_true_or_false(self):
        for path in list(paths(sample_code())):
            part = part_at(sample_code(), path)
            if type(part) is int and part_at(sample_code(), path[:-1])[0] != "push":
                self.bad(replaced(sample_code(), path, True))
                self.bad(replaced(sample_code(), path, False))

    def test_random_changes_raise_nothing_else(self):
        chance = random.Random(3)
        for seed in range(100):
            code = compile_program(ProgramMaker(seed).program())
            places = list(paths(code))
            for _ in range(8):
                value = chance.choice([
                    part_at(code, chance.choice(places)), chance.choice(ODD_VALUES[:-6]), chance.randrange(-2, 30),
                ])
                try:
                    self.assertIsNone(check_code(replaced(code, chance.choice(places), value)))
                except BadCode:
                    pass

    def test_lists_that_are_much_too_long(self):
        self.bad([function([])] * 10 ** 6)
        self.bad_one([YIELD] * 10 ** 6)
        self.bad_one([YIELD], [(0, 1, 0, "clean", 0)] * 10 ** 6)
        self.bad_one([("select", [("after", None)] * 10 ** 6, False)])


class Heads(Checked):
    def test_1_to_8_functions(self):
        self.bad([])
        for many in range(1, 11):
            code = [function([], name=f"f{k}") for k in range(many)]
            (self.good if many <= 8 else self.bad)(code)

    def test_names(self):
        for name in ("f", "main", "abcdefghijkl", "a12345678901"):
            self.good_one([], name=name)
        for name in ("", "F", "abcdefghijklm", "1f", "f_", "f ", "\u00e4", None, 0, True, (), [], ("f",), *RESERVED):
            self.bad_one([], name=name)

    def test_names_differ(self):
        self.bad([function([]), function([])])
        self.bad([function([], name="a"), function([]), function([YIELD], name="a", count=1)])

    def test_count_and_slots(self):
        for count in range(-2, 8):
            for slots in (-1, 0, 1, 2, 3, 4, 5, 400):
                valid = 0 <= count <= 4 and count <= slots
                (self.good_one if valid else self.bad_one)([END], count=count, slots=slots)
        for slots in (401, 402, 10 ** 30):
            self.bad_one([END], slots=slots)
        for value in (None, True, False, "1", (), [], (1,)):
            self.bad_one([END], count=value)
            self.bad_one([END], slots=value)

    def test_at_most_4000_instructions(self):
        self.good_one([YIELD] * 4000)
        self.bad_one([YIELD] * 4001)
        self.good([function([YIELD] * 4000, name="a"), function([YIELD] * 4000, name="b")])

    def test_at_most_400_guards(self):
        guards = [(0, 1, 2, "clean", 0)]
        instructions = [YIELD, END, SETTLE, RESUME]
        self.good_one([YIELD, END, RESUME], guards * 400)
        self.bad_one([YIELD, END, RESUME], guards * 401)
        self.good_one(instructions, [(0, 1, 3, "clean", 0)] * 400)

    def test_the_greatest_code(self):
        instructions = [*[YIELD] * 3998, END, ("catch", 0)]
        guards = [(0, 3998, 3999, "catch", 0)] * 400
        self.good_one(instructions, guards)


class Instructions(Checked):
    def alone(self, instruction, **more):
        """An instruction that is not reached, so that only its form counts."""
        return [function([END, instruction], **more)]

    def test_push(self):
        for value in (0, 1, -1, MOST, -MOST, True, False):
            self.good(self.alone(("push", value)))
        for value in (MOST + 1, -MOST - 1, 10 ** 40, None, "x", "1", (), [], (1,), ["x"]):
            self.bad(self.alone(("push", value)))

    def test_slots(self):
        for slot in (-1, 0, 1, 2, 3, 400, 10 ** 20, None, True, False, "0", (), [], (0,)):
            valid = slot is not True and slot is not False and slot in (0, 1, 2)
            check = self.good if valid else self.bad
            check(self.alone(("load", slot), slots=3))
            check(self.alone(("store", slot), slots=3))
            check([function([YIELD, END, ("catch", slot)], [(0, 1, 2, "catch", 0)], slots=3)])
            check(self.alone(("catch", slot), slots=3))
            check = self.good if valid or slot is None else self.bad
            for word, count in COUNTS.items():
                check(self.alone(("ask", word, count, slot), slots=3))
            check(self.alone(("spawn", "f", 0, slot), slots=3))
            check([function([], name="g"), *self.alone(("call", "g", 0, slot), slots=3)])
            for word in ("send", "receive", "after"):
                check(self.alone(("select", [(word, slot)], False), slots=3))
                check(self.alone(("select", [("after", 0), (word, slot)], True), slots=3))
        for instruction in (("load", 0), ("store", 0), ("ask", "now", 0, 0)):
            self.bad(self.alone(instruction, slots=0))
        self.good(self.alone(("load", 399), slots=400))

    def test_apply(self):
        for sign in ("not", "+", "-", "*", "<", "<=", "=", "and", "or"):
            self.good(self.alone(("apply", sign)))
        for sign in ("", "/", ">", "==", "xor", "Not", "emit", None, 0, True, (), [], ("+",)):
            self.bad(self.alone(("apply", sign)))

    def test_targets(self):
        for target in (-1, 0, 1, 2, 3, 4, 4000, None, True, "1", (), []):
            valid = target is not True and target in (0, 1, 2)
            check = self.good if valid else self.bad
            check(self.alone(("jump", target)))
            check(self.alone(("branch", target)))

    def test_asks(self):
        for word, right in COUNTS.items():
            for count in (-1, 0, 1, 2, 3, None, True, False, "1", (), []):
                valid = type(count) is int and count == right
                (self.good if valid else self.bad)(self.alone(("ask", word, count, None)))
        for word in ("spawn", "select", "enter", "leave", "", "Yield", "settle", "call", "push", None, 0, True, (), []):
            for count in (0, 1, 2):
                self.bad(self.alone(("ask", word, count, None)))

    def test_spawn_and_call(self):
        params = {"g": 2, "h": 0, "f": 0, "i": 3}
        for name in ("g", "h", "f", "i", "nowhere", "", None, 0, (), ["g"]):
            for count in (-1, 0, 1, 2, 3, 4, None, True, False, "0", ()):
                known = isinstance(name, str) and name in params
                right = known and type(count) is int and params[name] == count
                for word, valid in (("spawn", right), ("call", right and name in ("g", "h"))):
                    code = [
                        function([], name="g", count=2), function([], name="h"), *self.alone((word, name, count, None)),
                        function([], name="i", count=3),
                    ]
                    (self.good if valid else self.bad)(code)

    def test_call_in_each_function(self):
        for at in range(4):
            for to in range(4):
                code = [function([("call", f"f{to}", 0, None)] if k == at else [END], name=f"f{k}") for k in range(4)]
                (self.good if to < at else self.bad)(code)
                code = [function([("spawn", f"f{to}", 0, None)] if k == at else [END], name=f"f{k}") for k in range(4)]
                self.good(code)

    def test_select(self):
        item = ("after", None)
        for many in range(0, 7):
            for default in (True, False):
                (self.good if 1 <= many <= 4 else self.bad)(self.alone(("select", [item] * many, default)))
        for default in (None, 0, 1, "true", (), []):
            self.bad(self.alone(("select", [item], default)))
        for shape in (None, (), (item,), "after", 1, [None], [()], [("after",)], [["after", None]],
            [("after", None, 1)],
                      [("sleep", None)], [("Send", None)], [("", None)], [(None, None)], [(0, 0)], [((), 0)],
                      ["after"]):
            self.bad(self.alone(("select", shape, False)))

    def test_enter(self):
        for timed in (True, False):
            for watched in (True, False):
                self.good(self.alone(("enter", timed, watched)))
        for value in (None, 0, 1, "true", (), []):
            self.bad(self.alone(("enter", value, True)))
            self.bad(self.alone(("enter", False, value)))

    def test_complete(self):
        for word in ("return", "end", "throw"):
            self.good(self.alone(("complete", word)))
        for word in ("", "normal", "cancelled", "Return", "value", None, 0, True, (), []):
            self.bad(self.alone(("complete", word)))

    def test_unknown_words(self):
        for word in ("", "pop", "dup", "yield", "emit", "shield", "finally", "Push", "acquire", "clean", "end",
            "return"):
            for parts in ([], [0], [0, 0], ["f", 0, None], [None]):
                self.bad(self.alone((word, *parts)))

    def test_the_form_counts_also_where_nothing_is_reached(self):
        self.bad([function([END, YIELD, ("load", 5)], slots=5)])
        self.bad([function([("jump", 2), ("push", None), END])])


class Guards(Checked):
    INSTRUCTIONS = [YIELD, YIELD, END, ("catch", 0), END, RESUME]

    def test_ranges(self):
        for first in range(-1, 8):
            for last in range(-1, 8):
                valid = 0 <= first < last <= 6
                (self.good_one if valid else self.bad_one)(self.INSTRUCTIONS, [(first, last, 5, "clean", 0)])
        for value in (None, True, False, "0", (), []):
            self.bad_one(self.INSTRUCTIONS, [(value, 2, 5, "clean", 0)])
            self.bad_one(self.INSTRUCTIONS, [(0, value, 5, "clean", 0)])
            self.bad_one(self.INSTRUCTIONS, [(0, 2, value, "clean", 0)])
            self.bad_one(self.INSTRUCTIONS, [(0, 2, 5, "clean", value)])

    def test_targets(self):
        for target in range(-1, 9):
            valid = target in (4, 5)   # the first three are reached by steps, and with nothing pending
            (self.good_one if valid else self.bad_one)(self.INSTRUCTIONS, [(0, 1, target, "clean", 0)])
            (self.good_one if target == 3 else self.bad_one)(self.INSTRUCTIONS, [(0, 1, target, "catch", 0)])
        self.bad_one([YIELD], [(0, 1, 1, "clean", 0)])
        self.bad_one([], [(0, 0, 0, "clean", 0)])
        self.bad_one([], [(0, 1, 0, "clean", 0)])

    def test_words(self):
        for word in ("", "Clean", "finally", "throw", None, 0, True, (), []):
            self.bad_one(self.INSTRUCTIONS, [(0, 1, 5, word, 0)])
            self.bad_one(self.INSTRUCTIONS, [(0, 1, 3, word, 0)])

    def test_the_target_also_where_nothing_is_reached(self):
        for first, last in ((0, 1), (4, 5)):
            instructions = [YIELD, END, RESUME, END, YIELD, END, ("catch", 0)]
            self.good_one(instructions, [(first, last, 6, "catch", 0)])
            self.good_one(instructions, [(first, last, 2, "clean", 0)])
            self.bad_one(instructions, [(first, last, 6, "clean", 0)])
            self.bad_one(instructions, [(first, last, 2, "catch", 0)])
            self.bad_one(instructions, [(first, last, 7, "clean", 0)])

    def test_depths(self):
        for depth in range(-1, 24):
            # The guard covers an instruction that is not reached, so only the range of the depth counts.
            (self.good_one if 0 <= depth <= 19 else self.bad_one)([END, YIELD, RESUME], [(1, 2, 2, "clean", depth)])
        for pending in range(0, 20):
            for depth in range(0, 20):
                at = pending
                instructions = [*[SETTLE] * pending, YIELD, END, END]
                guards = [(at, at + 1, at + 2, "clean", depth)]
                (self.good_one if depth <= pending else self.bad_one)(instructions, guards)

    def test_the_depth_without_what_the_instruction_removes(self):
        for instruction in (RESUME, LEAVE):
            for pending in range(1, 5):
                for depth in range(0, 6):
                    instructions = [*[SETTLE] * pending, instruction, END, END]
                    guards = [(pending, pending + 1, pending + 2, "clean", depth)]
                    (self.good_one if depth <= pending - 1 else self.bad_one)(instructions, guards)
        for depth in (0, 1, 2):
            instructions = [SETTLE, YIELD, END, ("catch", 0), END, RESUME, END]
            guards = [(1, 2, 3, "catch", 1), (3, 4, 5, "clean", depth)]
            (self.good_one if depth <= 1 else self.bad_one)(instructions, guards)
        for depth in (0, 1):
            instructions = [SETTLE, END, END]
            (self.good_one if depth <= 0 else self.bad_one)(instructions, [(0, 1, 2, "clean", depth)])

    def test_all_guards_up_to_the_first_clean_one_count(self):
        instructions = [YIELD, END, ("catch", 0), END, END, ("catch", 0), END]
        good = [(0, 1, 2, "catch", 0), (0, 1, 4, "clean", 0)]
        self.good_one(instructions, good)
        for extra in ((0, 1, 5, "catch", 1), (0, 1, 4, "clean", 1)):
            self.bad_one(instructions, [extra, *good])
            self.bad_one(instructions, [good[0], extra, good[1]])
            self.good_one(instructions, [*good, extra])
            self.good_one(instructions, [good[1], extra])
            self.good_one(instructions, [(1, 2, *extra[2:]), *good][1:])
        # A guard behind a clean one that covers other instructions only counts still.
        self.bad_one(instructions, [(1, 2, 4, "clean", 0), (0, 1, 5, "catch", 1)])
        self.bad_one([*instructions], [(0, 1, 4, "clean", 0), (0, 2, 5, "catch", 1)])

    def test_instructions_without_completions_are_covered_too(self):
        for instruction in (PUSH, ("jump", 1), ("load", 0), SETTLE, ("ask", "shield", 0, None)):
            self.bad_one([instruction, END, END], [(0, 1, 2, "clean", 1)])
            self.good_one([instruction, END, END], [(0, 1, 2, "clean", 0)])
        self.bad_one([END, YIELD, END], [(0, 1, 2, "clean", 1)])

    def test_the_target_is_reached_with_the_height_0_and_one_more_pending(self):
        for depth in range(0, 4):
            for removed in range(0, 7):
                instructions = [*[SETTLE] * 3, YIELD, END, *[RESUME] * removed, END]
                guards = [(3, 4, 5, "clean", depth)]
                (self.good_one if removed <= depth + 1 else self.bad_one)(instructions, guards)
        self.bad_one([PUSH, YIELD, END, DROP, END], [(1, 2, 3, "clean", 0)])
        self.good_one([PUSH, YIELD, END, PUSH, DROP, END], [(1, 2, 3, "clean", 0)])

    def test_the_target_is_reached_also_by_a_step(self):
        self.good_one([YIELD, SETTLE, RESUME], [(0, 1, 2, "clean", 0)])
        self.bad_one([YIELD, YIELD, RESUME], [(0, 1, 2, "clean", 0)])
        self.bad_one([YIELD, SETTLE, SETTLE, RESUME], [(0, 1, 3, "clean", 0)])
        self.bad_one([YIELD, SETTLE, PUSH, RESUME], [(0, 1, 3, "clean", 0)])
        self.good_one([YIELD, SETTLE, PUSH, DROP, RESUME], [(0, 1, 4, "clean", 0)])

    def test_a_target_of_two_guards(self):
        instructions = [SETTLE, YIELD, YIELD, END, END]
        self.good_one(instructions, [(1, 2, 4, "clean", 1), (2, 3, 4, "clean", 1)])
        self.bad_one(instructions, [(1, 2, 4, "clean", 1), (2, 3, 4, "clean", 0)])

    def test_a_target_within_its_own_guard(self):
        self.good_one([YIELD, SETTLE, ("ask", "unveil", 0, None), RESUME],
            [(0, 1, 2, "clean", 0), (2, 3, 2, "clean", 0)])
        self.good_one([YIELD, SETTLE, YIELD, RESUME], [(0, 3, 2, "clean", 0)])
        self.bad_one([YIELD, SETTLE, YIELD, RESUME], [(0, 3, 2, "clean", 1)])


class Reaching(Checked):
    def test_what_is_popped_must_be_there(self):
        pops = [
            (1, ("store", 0)), (1, ("branch", 1)), (1, ("apply", "not")), (2, ("apply", "+")), (2, ("apply", "and")),
            (1, ("complete", "return")), (1, ("complete", "throw")), (1, ("enter", True, False)),
            (0, ("enter", False, True)), (0, END), (0, ("load", 0)), (0, SETTLE),
            (1, ("select", [("after", None)], False)), (1, ("select", [("receive", None)], False)),
            (2, ("select", [("send", None)], True)),
            (5, ("select", [("after", 2), ("send", None), ("receive", 3), ("after", None)], False)),
        ]
        pops.extend([(count, ("ask", word, count, None)) for word, count in COUNTS.items()])
        for count in range(5):
            pops.append((count, ("spawn", "g", count, None)))
            pops.append((count, ("call", "g", count, None)))
        for needed, instruction in pops:
            count = instruction[2] if instruction[0] in ("spawn", "call") else 0
            for height in range(0, 9):
                last = ("branch", height + 1) if instruction[0] == "branch" else instruction
                code = [function([], name="g", count=count), function([*[PUSH] * height, last])]
                with self.subTest(instruction=instruction, height=height):
                    (self.good if height >= needed else self.bad)(code)

    def test_what_is_pushed_is_there(self):
        for height, instructions in (
            (1, [PUSH]), (1, [("load", 0)]), (0, [PUSH, ("store", 0)]), (1, [PUSH, ("apply", "not")]),
            (1, [PUSH, PUSH, ("apply", "<")]), (0, [PUSH, ("branch", 2)]), (0, [PUSH, ("ask", "emit", 1, 0)]),
            (0, [PUSH, PUSH, ("ask", "send", 2, 0)]), (0, [("ask", "now", 0, 0)]), (0, [PUSH, ("enter", True, True)]),
            (0, [("enter", False, True)]), (1, [PUSH, PUSH, ("select", [("send", 0)], True)]),
            (1, [PUSH] * 4 + [("select", [("after", 0)] * 4, True)]),
            (1, [PUSH] * 8 + [("select", [("send", 0)] * 4, True)]),
            (0, [PUSH, PUSH, ("call", "g", 2, None)]), (0, [PUSH, PUSH, ("spawn", "g", 2, 1)]), (0, [SETTLE]),
            (0, [SETTLE, RESUME]), (0, [SETTLE, LEAVE]), (2, [PUSH, SETTLE, PUSH]),
        ):
            for dropped in range(0, 4):
                code = [function([], name="g", count=2), function([*instructions, *[DROP] * dropped])]
                (self.good if dropped <= height else self.bad)(code)
        # The height is the same on all ways only if the select pushes exactly one value.
        self.good_one([PUSH, ("select", [("after", None)], False), PUSH, ("branch", 4), DROP])
        self.bad_one([PUSH, ("select", [("after", None)], False), PUSH, ("branch", 5), DROP, DROP])

    def test_what_is_removed_must_be_there(self):
        for instruction in (RESUME, LEAVE):
            for pending in range(0, 4):
                for removed in range(0, 5):
                    code = [*[SETTLE] * pending, *[instruction] * removed]
                    (self.good_one if removed <= pending else self.bad_one)(code)
        self.good_one([YIELD, END, ("catch", 0), END], [(0, 1, 2, "catch", 0)])
        self.bad_one([YIELD, END, ("catch", 0), RESUME], [(0, 1, 2, "catch", 0)])
        self.good_one([SETTLE, YIELD, END, ("catch", 0), RESUME], [(1, 2, 3, "catch", 1)])

    def test_the_height_is_at_most_40(self):
        self.good_one([PUSH] * 40 + [END])
        self.bad_one([PUSH] * 41 + [END])
        self.good_one([PUSH] * 40 + [("apply", "+"), PUSH, ("apply", "+"), END])
        self.good_one([("load", 0)] * 39 + [PUSH, ("apply", "not"), END])
        self.bad_one([("load", 0)] * 40 + [PUSH, ("apply", "+"), END])
        self.good_one([PUSH] * 40 + [("select", [("after", None)], False), END])
        self.good_one([END, *[PUSH] * 50])

    def test_at_most_20_are_pending(self):
        self.good_one([SETTLE] * 20 + [END])
        self.bad_one([SETTLE] * 21 + [END])
        self.good_one([SETTLE] * 20 + [RESUME, SETTLE, LEAVE, END])
        self.good_one([END, *[SETTLE] * 50])
        self.good_one([SETTLE] * 19 + [YIELD, END, END], [(19, 20, 21, "clean", 19)])
        self.bad_one([SETTLE] * 19 + [YIELD, END, SETTLE, END], [(19, 20, 21, "clean", 19)])

    def test_no_instruction_is_reached_with_two_pairs(self):
        self.good_one([PUSH, ("branch", 3), YIELD, END])
        self.bad_one([PUSH, ("branch", 3), PUSH, END])
        self.bad_one([PUSH, ("branch", 3), SETTLE, END])
        self.good_one([PUSH, ("branch", 4), PUSH, DROP, END])
        self.good_one([YIELD, ("jump", 0)])
        self.bad_one([PUSH, ("jump", 0)])
        self.bad_one([SETTLE, ("jump", 0)])
        self.bad_one([PUSH, DROP, SETTLE, ("jump", 1)])
        self.good_one([SETTLE, RESUME, ("jump", 0)])

    def test_a_jump_and_a_complete_lead_nowhere_else(self):
        self.good_one([("jump", 2), DROP, END])
        self.bad_one([PUSH, ("branch", 2), DROP, END])
        self.bad_one([PUSH, ("branch", 3), END, DROP])
        for word in ("end", "return", "throw"):
            self.good_one([PUSH, ("complete", word), DROP, DROP, RESUME])

    def test_the_end_may_be_reached_with_different_numbers(self):
        self.good_one([PUSH, ("branch", 4), PUSH, SETTLE])
        self.good_one([PUSH, ("branch", 5), PUSH, PUSH, SETTLE])
        self.good_one([PUSH, ("branch", 3), ("jump", 6), SETTLE, PUSH, ("jump", 6)])

    def test_a_catch_is_reached_by_guards_only(self):
        guards = [(0, 1, 3, "catch", 0)]
        self.good_one([YIELD, YIELD, ("jump", 4), ("catch", 0), END], guards)
        self.bad_one([YIELD, YIELD, ("jump", 3), ("catch", 0), END], guards)
        self.bad_one([YIELD, SETTLE, ("jump", 3), ("catch", 0), END], guards)
        self.bad_one([YIELD, SETTLE, YIELD, ("catch", 0), END], guards)
        self.bad_one([("catch", 0), END])
        self.bad_one([("catch", 0), YIELD, END], [(1, 2, 0, "catch", 0)])
        self.bad_one([YIELD, PUSH, ("branch", 3), ("catch", 0), END], guards)
        self.good_one([END, ("catch", 0)])
        self.good_one([YIELD, ("jump", 2), END, ("catch", 0), ("jump", 2)], guards)

    def test_all_functions_are_looked_at(self):
        for at in range(8):
            code = [function([DROP] if k == at else [END], name=f"f{k}") for k in range(8)]
            self.bad(code)

    def test_all_that_is_reached_is_looked_at(self):
        self.bad_one([YIELD] * 3000 + [DROP])
        self.bad_one([PUSH, ("branch", 3), END, DROP])
        self.bad_one([YIELD, END, DROP, END], [(0, 1, 2, "clean", 0)])
        self.bad_one([YIELD, END, ("catch", 0), DROP, END], [(0, 1, 2, "catch", 0)])


class ChangedCodes(Checked):
    def test_valid_codes_stay_valid_with_other_slots_and_numbers(self):
        code = sample_code()
        for path in list(paths(code)):
            part = part_at(code, path)
            if isinstance(part, tuple) and part[:1] == ("push",):
                self.good(replaced(code, [*path, 1], 5))
        self.assertEqual(code, sample_code())

    def test_an_instruction_left_out_of_a_compiled_program(self):
        code = compile_program(sample_program())
        before = copy.deepcopy(code)
        refused = 0
        for at in range(len(code[2][3])):
            less = [*code[2][3][:at], *code[2][3][at + 1:]]
            try:
                check_code([*code[:2], (*code[2][:3], less, code[2][4])])
            except BadCode:
                refused += 1
        self.assertGreater(refused, len(code[2][3]) // 2)
        self.assertEqual(code, before)


if __name__ == "__main__":
    unittest.main()
