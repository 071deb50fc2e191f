"""Points 15, 17, 19, 20 and 25: executing codes."""

import copy
import unittest

from codes import (
    COUNTS, EMIT, END, LEAVE, RESUME, SETTLE, YIELD, CodeMaker, full_code, function, greatest_code, replies_to,
    runs_long,
)
from helper import CodeRun, ProgramMaker, repeats_a_list, sample_program, shared_lists
from seedbed.code import check_code
from seedbed.compiler import compile_program
from seedbed.direct import Direct, turns_of
from seedbed.errors import IsDone, OutOfRange
from seedbed.machine import Machine
from seedbed.tidy import tidy_code

NONE = ("value", None)
THROW = ("throw", 77)
CANCELLED = ("cancelled",)
DONE = ("done", ("return", None))
UNVEIL = ("ask", "unveil", 0, None)


def ask(word, *parts):
    return ("ask", (word, *parts))


def done(*outcome):
    return ("done", outcome)


def show(value):
    """Instructions that emit a value."""
    return [("push", value), EMIT]


class Executed(unittest.TestCase):
    def turns(self, instructions, replies, guards=(), others=(), args=(), **more):
        """The turns of a function, which are those of the words of point 19, too."""
        code = [*others, function(instructions, guards, count=len(args), **more)]
        check_code(code)
        found = turns_of(Machine(code, "f", list(args)), replies)
        self.assertEqual(repr(found), repr(turns_of(CodeRun(code, "f", list(args)), replies)))
        return found

    def value(self, instructions, replies=(), **more):
        """What a function returns that returns what is on the stack."""
        turn = self.turns([*instructions, ("complete", "return")], replies, **more)[-1]
        self.assertEqual(turn[1][0], "return")
        return turn[1][1]


class Instructions(Executed):
    def test_push_load_and_store(self):
        for value in (0, 1, -5, 1000000000):
            self.assertEqual(self.value([("push", value)]), value)
            self.assertEqual(self.value([("push", value), ("store", 1), ("load", 1)]), value)
        self.assertIs(self.value([("push", True)]), True)
        self.assertIs(self.value([("push", False), ("store", 0), ("load", 0)]), False)
        self.assertEqual(self.value([("load", 4)]), 0)
        self.assertEqual(self.value([("load", 0), ("load", 2), ("apply", "-")], args=[7, 8, 3]), 4)
        self.assertEqual(self.value([("load", 3)], args=[7, 8, 3]), 0)

    def test_apply(self):
        for sign, first, second, value in (
            ("+", 7, 3, 10), ("-", 7, 3, 4), ("*", 7, 3, 21), ("<", 7, 3, False), ("<", 3, 7, True), ("<=", 3, 3, True),
            ("=", 3, 3, True), ("=", 3, 4, False), ("and", True, False, False), ("or", True, False, True),
            ("+", 1000000000, 1, -1000000000),
        ):
            self.assertIs(self.value([("push", first), ("push", second), ("apply", sign)]) == value, True)
        self.assertIs(self.value([("push", True), ("apply", "not")]), False)
        self.assertIs(self.value([("push", 2), ("push", 3), ("apply", "<")]), True)

    def test_jump_and_branch(self):
        self.assertEqual(self.value([("jump", 2), ("push", 1), ("push", 2)]), 2)
        for truth, value in ((True, 1), (False, 2)):
            code = [("push", truth), ("branch", 4), ("push", 1), ("jump", 5), ("push", 2)]
            self.assertEqual(self.value(code), value)
        turns = self.turns([YIELD, ("jump", 0)], [NONE] * 3)
        self.assertEqual(turns, [ask("yield")] * 4)

    def test_the_end_of_the_instructions(self):
        self.assertEqual(self.turns([], []), [DONE])
        self.assertEqual(self.turns([("jump", 1)], []), [DONE])
        self.assertEqual(self.turns([("push", False), ("branch", 3), YIELD], []), [DONE])
        self.assertEqual(self.turns([("push", 3), SETTLE], []), [DONE])
        self.assertEqual(self.turns([YIELD], [NONE], [(0, 1, 0, "clean", 0)][:0]), [ask("yield"), DONE])

    def test_the_end_is_not_covered_by_guards(self):
        guards = [(0, 3, 1, "clean", 0)]
        code = [("jump", 3), YIELD, END]
        self.assertEqual(self.turns(code, [], guards), [DONE])

    def test_complete(self):
        self.assertEqual(self.turns([("push", 6), ("complete", "return"), YIELD], []), [done("return", 6)])
        self.assertEqual(self.turns([END, YIELD], []), [DONE])
        self.assertEqual(self.turns([("push", 6), ("complete", "throw"), YIELD], []), [done("throw", 6)])

    def test_settle_and_resume(self):
        self.assertEqual(self.turns([SETTLE, RESUME, *show(1)], [NONE]), [ask("emit", 1), DONE])
        self.assertEqual(self.turns([SETTLE, SETTLE, RESUME, RESUME], []), [DONE])

    def test_calls(self):
        others = [
            function([("load", 0), ("load", 1), ("apply", "-"), ("complete", "return")], count=2, slots=2, name="g"),
            function([("push", 9), ("push", 4), ("call", "g", 2, 0), *show(8), ("load", 0), ("complete", "return")],
                slots=1, name="h"),
            function([], slots=0, name="n"),
        ]
        turns = self.turns([("call", "h", 0, 2), ("load", 2), EMIT], [NONE] * 2, others=others)
        self.assertEqual(turns, [ask("emit", 8), ask("emit", 5), DONE])
        for slot in (None, 2):
            code = [("push", 3), ("store", 2), ("call", "n", 0, slot), ("load", 2), EMIT]
            turns = self.turns(code, [NONE], others=others)
            self.assertEqual(turns, [ask("emit", 3 if slot is None else 0), DONE])

    def test_a_call_keeps_the_stack_and_slots_of_the_caller(self):
        others = [function([("push", 1), ("store", 0), ("push", 2), SETTLE, END], slots=1, name="g")]
        code = [("push", 5), ("push", 6), ("store", 0), ("call", "g", 0, None), ("load", 0), ("apply", "+")]
        self.assertEqual(self.value(code, others=others), 11)


class Asks(Executed):
    def test_each_word_with_its_values_in_order(self):
        for word, count in COUNTS.items():
            values = [("push", 11), ("push", 12)][:count]
            for slot in (None, 1):
                code = [("push", 5), ("store", 1), *values, ("ask", word, count, slot), ("load", 1), EMIT]
                asked = ask(word, *[11, 12][:count])
                for value in (None, 0, 30, -(10 ** 20)):
                    told = 5 if slot is None else 0 if value is None else value
                    turns = self.turns(code, [("value", value), NONE])
                    self.assertEqual(turns, [asked, ask("emit", told), DONE])
                for reply in (THROW, CANCELLED):
                    turns = self.turns(code, [reply, NONE])
                    if word in ("shield", "unveil", "release"):
                        self.assertEqual(turns, [asked, ask("emit", 5), DONE])
                    else:
                        self.assertEqual(turns, [asked, ("done", reply)])

    def test_spawn(self):
        others = [function([], count=2, slots=2, name="g")]
        for slot in (None, 1):
            code = [("push", 5), ("store", 1), ("push", True), ("push", 2), ("spawn", "g", 2, slot), ("load", 1), EMIT]
            turns = self.turns(code, [("value", 4), NONE], others=others)
            self.assertEqual(turns, [ask("spawn", "g", [True, 2]), ask("emit", 5 if slot is None else 4), DONE])
            for reply in (THROW, CANCELLED):
                self.assertEqual(self.turns(code, [reply], others=others)[-1], ("done", reply))
        self.assertEqual(self.turns([("spawn", "f", 0, None)], [NONE]), [ask("spawn", "f", []), DONE])

    def test_select(self):
        shape = [("send", 1), ("receive", 2), ("after", None), ("receive", None)]
        code = [*[("push", k) for k in range(1, 6)], ("select", shape, True), *[
            part for slot in (1, 2) for part in (("load", slot), EMIT)], ("complete", "return")]
        arms = [("send", 1, 2), ("receive", 3), ("after", 4), ("receive", 5)]
        for index in range(5):
            for number in (None, 0, 8):
                turns = self.turns(code, [("value", (index, number)), NONE, NONE])
                told = [(number or 0) if index == slot - 1 else 0 for slot in (1, 2)]
                self.assertEqual(turns, [
                    ask("select", arms, True), ask("emit", told[0]), ask("emit", told[1]), done("return", index),
                ])
        for reply in (THROW, CANCELLED):
            self.assertEqual(self.turns(code, [reply])[-1], ("done", reply))
        turns = self.turns([("push", 7), ("select", [("after", 3)], False), EMIT], [("value", (0, 9)), NONE])
        self.assertEqual(turns, [ask("select", [("after", 7)], False), ask("emit", 0), DONE])
        self.assertEqual(self.value([("push", 7), ("select", [("after", 3)], False), ("store", 0), ("load", 3)],
            [("value", (0, 9))]), 9)

    def test_enter(self):
        for watched in (True, False):
            turns = self.turns([("push", -4), ("enter", True, watched)], [NONE])
            self.assertEqual(turns, [ask("enter", -4, watched), DONE])
            turns = self.turns([("enter", False, watched)], [("value", 3)])
            self.assertEqual(turns, [ask("enter", None, watched), DONE])
            for reply in (THROW, CANCELLED):
                self.assertEqual(self.turns([("enter", False, watched)], [reply])[-1], ("done", reply))

    def test_leave_with_each_completion(self):
        for body, completion in (
            ([], ("normal",)), ([("push", 3), ("complete", "throw")], ("throw", 3)), ([END], ("return", None)),
            ([("push", 4), ("complete", "return")], ("return", 4)),
        ):
            code = [*body, SETTLE, LEAVE, *show(1)]
            guards = [(0, len(body), len(body) + 1, "clean", 0)] if body else []
            later = [("done", completion)] if completion[0] == "return" else [ask("emit", 1), DONE]
            for value in (None, 5):
                turns = self.turns(code, [("value", value), NONE], guards)
                self.assertEqual(turns, [ask("leave", completion), *later])
            for reply in (THROW, CANCELLED):
                turns = self.turns(code, [reply], guards)
                self.assertEqual(turns, [ask("leave", completion), ("done", reply)])

    def test_leave_of_a_cancelled_body(self):
        code = [YIELD, SETTLE, LEAVE, *show(1)]
        turns = self.turns(code, [CANCELLED, NONE, NONE], [(0, 1, 2, "clean", 0)])
        self.assertEqual(turns, [ask("yield"), ask("leave", CANCELLED), ask("emit", 1), DONE])

    def test_leave_takes_the_last_pending_completion_only(self):
        code = [YIELD, END, SETTLE, LEAVE, RESUME, *show(1)]
        turns = self.turns(code, [THROW, NONE], [(0, 1, 2, "clean", 0)])
        self.assertEqual(turns, [ask("yield"), ask("leave", ("normal",)), ("done", THROW)])


class Guards(Executed):
    def test_which_completions_each_word_takes(self):
        clean = [YIELD, END, ("ask", "now", 0, None), RESUME]
        catch = [YIELD, END, ("catch", 1), ("load", 1), EMIT]
        for reply in (THROW, CANCELLED):
            turns = self.turns(clean, [reply, NONE], [(0, 1, 2, "clean", 0)])
            self.assertEqual(turns, [ask("yield"), ask("now"), ("done", reply)])
        self.assertEqual(self.turns(clean, [NONE], [(0, 1, 2, "clean", 0)]), [ask("yield"), DONE])
        turns = self.turns(clean, [NONE, NONE], [(0, 2, 2, "clean", 0)])
        self.assertEqual(turns, [ask("yield"), ask("now"), DONE])
        turns = self.turns(catch, [THROW, NONE], [(0, 2, 2, "catch", 0)])
        self.assertEqual(turns, [ask("yield"), ask("emit", 77), DONE])
        self.assertEqual(self.turns(catch, [CANCELLED], [(0, 2, 2, "catch", 0)]), [ask("yield"), ("done", CANCELLED)])
        self.assertEqual(self.turns(catch, [NONE], [(0, 2, 2, "catch", 0)]), [ask("yield"), DONE])

    def test_the_first_one_that_takes_it(self):
        code = [YIELD, END, ("catch", 0), *show(1), END, ("catch", 0), *show(2), END, *show(3), RESUME, *show(4)]
        first, second, third, fourth = (0, 1, 2, "catch", 0), (0, 1, 6, "catch", 0), (0, 1, 10, "clean", 0), (
            0, 1, 12, "clean", 0)
        for guards, thrown, other in (
            ([first, second, third, fourth], 1, 3), ([second, first, third], 2, 3), ([third, second, first], 3, 3),
            ([second, fourth, third, first], 2, None), ([fourth, third], None, None), ([first, second], 1, None),
        ):
            for reply, number in ((THROW, thrown), (CANCELLED, other)):
                turns = self.turns(code, [reply, NONE], guards)
                if number is None:
                    self.assertEqual(turns[1:], [("done", reply)])
                else:
                    self.assertEqual(turns[1], ask("emit", number))

    def test_the_range(self):
        for first in range(4):
            for last in range(first + 1, 5):
                code = [*[YIELD] * 4, END, *show(1)]
                for at in range(4):
                    turns = self.turns(code, [*[NONE] * at, THROW, NONE], [(first, last, 5, "clean", 0)])
                    covered = first <= at < last
                    self.assertEqual(turns[at + 1:], [ask("emit", 1), DONE] if covered else [("done", THROW)])

    def test_what_is_removed_at_a_depth(self):
        # Three completions are pending; the guard keeps the first ones, and adds the one that occurs.
        for depth in range(4):
            code = [
                YIELD, END, YIELD, END, YIELD, END, YIELD, END, *[("ask", "now", 0, None), LEAVE] * (depth + 1),
            ]
            guards = [
                (0, 1, 2, "clean", 0), (2, 3, 4, "clean", 1), (4, 5, 6, "clean", 2), (6, 7, 8, "clean", depth),
            ]
            replies = [("throw", 1), ("throw", 2), ("throw", 3), ("throw", 4), *[NONE] * 8]
            left = [4, *[3, 2, 1][3 - depth:]]
            turns = self.turns(code, replies, guards)
            told = [turn[1][1] for turn in turns if turn[1][0] == "leave"]
            self.assertEqual(told, [("throw", number) for number in left])

    def test_the_stack_is_emptied(self):
        code = [("push", 1), ("push", 2), YIELD, END, *[("load", 0)] * 40, ("complete", "return")]
        self.assertEqual(self.turns(code, [THROW], [(2, 3, 4, "clean", 0)])[-1], done("return", 0))

    def test_a_guard_that_covers_its_target(self):
        code = [YIELD, END, YIELD, RESUME]
        guards = [(0, 4, 2, "clean", 0)]
        turns = self.turns(code, [THROW, CANCELLED, ("throw", 3), ("throw", 4)], guards)
        self.assertEqual(turns, [ask("yield")] * 5)
        # What the resume brings is taken, too, so there is no end of it.
        self.assertEqual(self.turns(code, [THROW, NONE, NONE], guards), [ask("yield")] * 4)

    def test_at_a_call(self):
        others = [
            function([YIELD, ("push", 6), ("complete", "return")], slots=1, name="g"),
            function([("call", "g", 0, 0), YIELD, END, ("catch", 0), ("push", 9), ("complete", "throw")],
                [(0, 1, 3, "catch", 0)], slots=1, name="h"),
        ]
        code = [("call", "h", 0, 2), END, ("catch", 1), ("load", 1), EMIT, END, *show(5), RESUME]
        guards = [(0, 1, 2, "catch", 0), (0, 1, 6, "clean", 0)]
        self.assertEqual(self.turns(code, [NONE, NONE], guards, others), [ask("yield"), ask("yield"), DONE])
        turns = self.turns(code, [THROW, NONE], guards, others)
        self.assertEqual(turns, [ask("yield"), ask("emit", 9), DONE])
        turns = self.turns(code, [CANCELLED, NONE], guards, others)
        self.assertEqual(turns, [ask("yield"), ask("emit", 5), ("done", CANCELLED)])
        turns = self.turns(code, [NONE, THROW, NONE], guards, others)
        self.assertEqual(turns, [ask("yield"), ask("yield"), ask("emit", 77), DONE])

    def test_a_return_of_a_called_function_is_not_taken_at_the_call(self):
        others = [function([("push", 6), ("complete", "return")], slots=0, name="g")]
        code = [("call", "g", 0, 2), ("load", 2), EMIT, END, *show(5)]
        self.assertEqual(self.turns(code, [NONE], [(0, 1, 4, "clean", 0)], others), [ask("emit", 6), DONE])

    def test_a_return_within_a_called_function_is_taken_there(self):
        others = [function([("push", 6), ("complete", "return"), *show(1), RESUME], [(0, 2, 2, "clean", 0)], name="g")]
        turns = self.turns([("call", "g", 0, 2), ("load", 2), EMIT], [NONE, NONE], others=others)
        self.assertEqual(turns, [ask("emit", 1), ask("emit", 6), DONE])

    def test_resume_and_leave_are_covered_without_what_they_remove(self):
        code = [YIELD, END, RESUME, END, ("catch", 0), *show(2)]
        guards = [(0, 1, 2, "clean", 0), (2, 3, 4, "catch", 0)]
        self.assertEqual(self.turns(code, [THROW, NONE], guards), [ask("yield"), ask("emit", 2), DONE])
        self.assertEqual(self.turns(code, [CANCELLED], guards), [ask("yield"), ("done", CANCELLED)])
        code[2] = LEAVE
        turns = self.turns(code, [THROW, THROW, NONE], guards)
        self.assertEqual(turns, [ask("yield"), ask("leave", THROW), ask("emit", 2), DONE])

    def test_shield_unveil_and_release_are_not_taken(self):
        for word, count in (("shield", 0), ("unveil", 0), ("release", 1)):
            code = [*[("push", 1)] * count, ("ask", word, count, None), END, *show(5)]
            for reply in (THROW, CANCELLED, ("value", 3)):
                turns = self.turns(code, [reply], [(0, count + 1, count + 2, "clean", 0)])
                self.assertEqual(turns, [ask(word, *[1] * count), DONE])


class Refusals(unittest.TestCase):
    CODE = [
        function([("load", 0), EMIT], count=1, slots=1, name="g"),
        function([
            ("push", 3), ("call", "g", 1, None), YIELD, ("ask", "now", 0, 1), ("load", 1), ("complete", "return"),
        ]),
    ]

    def test_functions_and_args(self):
        for name in ("x", "main", "", "F", "push"):
            self.assertRaises(OutOfRange, Machine, self.CODE, name, [])
            self.assertRaises(OutOfRange, Machine, self.CODE, name, [1])
        for many in range(5):
            args = [7] * many
            for name, count in (("g", 1), ("f", 0)):
                if many == count:
                    Machine(self.CODE, name, args)
                else:
                    self.assertRaises(OutOfRange, Machine, self.CODE, name, args)

    def test_replies_at_each_turn(self):
        machine = Machine(self.CODE, "f", [])
        expected = [ask("emit", 3), ask("yield"), ask("now"), done("return", 8)]
        for at, turn in enumerate(expected):
            for _ in range(2):
                wrong = [NONE, THROW, CANCELLED] if at == 0 else [None]
                for reply in wrong:
                    self.assertRaises(OutOfRange, machine.resume, reply)
                if at > 0:
                    self.assertRaises(OutOfRange, machine.resume)
            self.assertEqual(machine.resume() if at == 0 else machine.resume(("value", 8)), turn)
        for reply in (None, NONE, THROW, CANCELLED):
            self.assertRaises(IsDone, machine.resume, reply)
        self.assertRaises(IsDone, machine.resume)

    def test_a_coroutine_that_is_done_at_once(self):
        for reply in (NONE, THROW):
            machine = Machine([function([])], "f", [])
            self.assertRaises(OutOfRange, machine.resume, reply)
            self.assertEqual(machine.resume(), DONE)
            self.assertRaises(IsDone, machine.resume)
            self.assertRaises(IsDone, machine.resume, reply)

    def test_a_run_that_is_cut(self):
        coroutine = Machine(self.CODE, "f", [])
        self.assertEqual(turns_of(coroutine, []), [ask("emit", 3)])
        self.assertEqual(coroutine.resume(NONE), ask("yield"))
        self.assertEqual(turns_of(Machine(self.CODE, "f", []), [NONE, THROW, NONE]),
            [ask("emit", 3), ask("yield"), ("done", THROW)])


class Arguments(unittest.TestCase):
    def code(self):
        return [
            function([("load", 0), EMIT], count=1, slots=1, name="g"),
            function([
                ("push", 3), ("spawn", "g", 1, None), ("push", 1), ("select", [("after", None)], False), ("store", 0),
                ("push", 4), ("call", "g", 1, None), ("push", 2), ("complete", "throw"), ("catch", 1), ("load", 1),
                EMIT, ("jump", 0),
            ], [(5, 9, 9, "catch", 0)]),
        ]

    REPLIES = [("value", 1), ("value", (0, None)), NONE, NONE] * 2

    def test_the_arguments_stay(self):
        code, args, replies = self.code(), [], list(self.REPLIES)
        turns_of(Machine(code, "f", args), replies)
        self.assertEqual((code, args, replies), (self.code(), [], self.REPLIES))
        code, args = full_code(), [5, 6]
        turns_of(Machine(code, "a23456789012", args), [])
        self.assertEqual((repr(code), args), (repr(full_code()), [5, 6]))

    def test_later_changes_of_the_code(self):
        code = self.code()
        machine = Machine(code, "f", [])
        expected = turns_of(Machine(code, "f", []), self.REPLIES)
        turns = [machine.resume()]
        for function_of_code in code:
            for instruction in function_of_code[3]:
                if instruction[0] == "select":
                    instruction[1].append(("after", 0))
                    instruction[1][0] = None
            function_of_code[3].clear()
            function_of_code[4].clear()
        code.clear()
        turns.extend([machine.resume(reply) for reply in self.REPLIES])
        self.assertEqual(turns, expected)

    def test_later_changes_of_args(self):
        args = [5]
        machine = Machine(self.code(), "g", args)
        args[0] = 6
        args.append(1)
        self.assertEqual(machine.resume(), ask("emit", 5))

    def test_later_changes_of_told_asks(self):
        machine = Machine(self.code(), "f", [])
        expected = turns_of(Machine(self.code(), "f", []), self.REPLIES)
        turn = machine.resume()
        turns = [copy.deepcopy(turn)]
        for reply in self.REPLIES:
            for part in turn[1]:
                if isinstance(part, list):
                    part.clear()
            turn = machine.resume(reply)
            turns.append(copy.deepcopy(turn))
        self.assertEqual(turns, expected)

    def test_lists_are_new(self):
        code = self.code()
        first, second = [turns_of(Machine(code, "f", []), self.REPLIES) for _ in range(2)]
        self.assertEqual(first, second)
        self.assertFalse(shared_lists(first, second))
        self.assertFalse(shared_lists(first, code))
        self.assertFalse(repeats_a_list(first))

    def test_two_coroutines_of_one_code(self):
        code = self.code()
        first, second = Machine(code, "g", [1]), Machine(code, "g", [2])
        self.assertEqual([first.resume(), second.resume()], [ask("emit", 1), ask("emit", 2)])
        self.assertEqual([first.resume(THROW), second.resume(NONE)], [("done", THROW), DONE])


class ManyCodes(unittest.TestCase):
    def test_random_codes_by_the_words_of_the_document(self):
        compared = 0
        for seed in range(700):
            code = CodeMaker(seed).code()
            maker = ProgramMaker(seed)
            for name, count, _, _, _ in code:
                args = [maker.random.randrange(6) for _ in range(count)]
                replies = replies_to(code, name, args, maker)
                if not runs_long(code, name, args, replies):
                    expected = turns_of(CodeRun(code, name, args), replies)
                    self.assertEqual(repr(turns_of(Machine(code, name, args), replies)), repr(expected))
                    compared += len(expected)
        self.assertGreater(compared, 3000)

    def test_compiled_programs(self):
        for seed in range(200):
            maker = ProgramMaker(seed)
            program = maker.program()
            code = compile_program(program)
            for name, params, _, _ in program:
                for friendly in (True, False):
                    args = maker.args_for(params)
                    replies = maker.replies_for(Direct(program, name, args), 60, friendly)
                    expected = turns_of(Direct(program, name, args), replies)
                    self.assertEqual(repr(turns_of(Machine(code, name, args), replies)), repr(expected))

    def test_marks_and_resources_are_nested(self):
        """Each leave belongs to the last scope, each unveil to the last shield, each release to the last resource."""
        seen = set()
        for seed in range(250):
            maker = ProgramMaker(seed)
            program = maker.program()
            code = compile_program(program)
            for name, params, _, _ in program:
                args = maker.args_for(params)
                replies = maker.replies_for(Direct(program, name, args), 80, seed % 2 == 0)
                kinds = [Machine(code, name, args), Machine(tidy_code(code), name, args)]
                for coroutine in (Direct(program, name, args), *kinds):
                    turns = turns_of(coroutine, replies)
                    self.assertTrue(is_nested(turns, replies, seen))
        self.assertEqual(seen, {"enter", "shield", "acquire"})

    def test_the_greatest_code(self):
        code = greatest_code()
        turns = turns_of(Machine(code, "abcdefghijk7", [1, 2, 3, 4]), [("value", 1), *[NONE] * 5000])
        self.assertEqual(len(turns), 1 + 3992 + 1)
        self.assertEqual(turns[0], ask("spawn", "abcdefghijk7", [999999993, -1000000000, True, 0]))
        self.assertEqual(turns[-1], DONE)

    def test_the_sample_program(self):
        program = sample_program()
        code = compile_program(program)
        for at in range(40):
            for reply in (THROW, CANCELLED, NONE):
                direct, machine = Direct(program, "main", []), Machine(code, "main", [])
                turn, count = direct.resume(), 0
                self.assertEqual(machine.resume(), turn)
                while turn[0] == "ask":
                    given = ("value", (0, 4)) if turn[1][0] == "select" else reply if count == at else ("value", count)
                    turn, count = direct.resume(given), count + 1
                    self.assertEqual(machine.resume(given), turn)


def is_nested(turns, replies, seen):
    """Tell whether what is left, unveiled and released is in the reverse order of its beginning."""
    ends = {"leave": "enter", "unveil": "shield", "release": "acquire"}
    begun = []
    for turn, reply in zip(turns, [*replies, None]):
        if turn[0] == "done":
            return not begun
        word = turn[1][0]
        if word == "shield" or word in ("enter", "acquire") and reply is not None and reply[0] == "value":
            begun.append(turn[1] if word == "acquire" else (word,))
            seen.add(word)
        elif word in ends:
            expected = ("acquire", turn[1][1]) if word == "release" else (ends[word],)
            if not begun or begun.pop() != expected:
                return False
    return True


if __name__ == "__main__":
    unittest.main()
