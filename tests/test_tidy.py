"""Points 23 and 25: tidying codes."""

import random
import unittest

from codes import (
    EMIT, END, RESUME, SETTLE, YIELD, CodeMaker, full_code, function, greatest_code, replies_to, runs_long,
)
from helper import (
    ODD_VALUES, WRAPS, ProgramMaker, main_with, nested_lists, part_at, paths, repeats_a_list, replaced, sample_program,
    shared_lists, unchanged_by,
)
from seedbed.checks import check_program
from seedbed.code import check_code
from seedbed.compiler import compile_program
from seedbed.direct import Direct, turns_of
from seedbed.errors import BadCode
from seedbed.machine import Machine
from seedbed.packing import pack_code, unpack_code
from seedbed.tidy import tidy_code

NONE = ("value", None)
REPLIES = [NONE, ("value", 3), ("throw", 77), ("cancelled",)]


class Tidied(unittest.TestCase):
    def tidied(self, code):
        """The tidied code keeps what point 23 says of every code."""
        tidy = tidy_code(code)
        check_code(tidy)
        self.assertEqual([part[:2] for part in tidy], [part[:2] for part in code])
        for before, after in zip(code, tidy):
            self.assertLessEqual(len(after[3]), len(before[3]))
        self.assertEqual(repr(tidy_code(tidy)), repr(tidy))
        self.assertFalse(repeats_a_list(tidy))
        self.assertFalse(shared_lists(tidy, code))
        return tidy

    def same_turns(self, code, tidy, name, args, replies):
        expected = turns_of(Machine(code, name, args), replies)
        self.assertEqual(repr(turns_of(Machine(tidy, name, args), replies)), repr(expected))
        return len(expected)

    def shorter(self, instructions, guards, size, guards_left=0, **more):
        """Tidy one function to so many instructions and guards; the turns are the same for all short replies."""
        code = [function(instructions, guards, **more)]
        check_code(code)
        tidy = self.tidied(code)
        self.assertEqual((len(tidy[0][3]), len(tidy[0][4])), (size, guards_left), tidy)
        args = [5] * code[0][1]
        for first in REPLIES:
            for second in REPLIES:
                for third in REPLIES:
                    self.same_turns(code, tidy, "f", args, [first, second, third, NONE])
        return tidy[0]


class Shorter(Tidied):
    def test_nothing_to_leave_out(self):
        for instructions in ([], [YIELD], [YIELD, ("jump", 0)], [("load", 0), EMIT, YIELD], [("jump", 0)]):
            tidy = self.tidied([function(instructions)])
            self.assertEqual(tidy[0][3], instructions)

    def test_instructions_that_are_not_reached(self):
        self.shorter([YIELD, END, YIELD, ("push", 1), YIELD], [], 1)
        self.shorter([("jump", 3), ("push", 1), YIELD, YIELD], [], 1)
        self.shorter([YIELD, ("jump", 3), ("catch", 0), YIELD], [(2, 3, 2, "catch", 0)], 2)
        self.shorter([YIELD, END, ("jump", 3), ("jump", 2)], [], 1)
        self.shorter([END, YIELD, RESUME], [(1, 2, 2, "clean", 0)], 0)

    def test_jumps_to_jumps(self):
        code = [("load", 0), ("push", 3), ("apply", "<"), ("branch", 6), YIELD, ("jump", 8), ("jump", 7), ("jump", 9),
                ("jump", 10), YIELD, YIELD]
        after = self.shorter(code, [], 8, count=1)
        self.assertEqual([part for part in after[3] if part[0] in ("jump", "branch")], [("branch", 6), ("jump", 7)])

    def test_jumps_to_the_next_one_and_to_the_end(self):
        self.shorter([YIELD, ("jump", 2), YIELD, ("jump", 4)], [], 2)
        self.shorter([("jump", 1)], [], 0)
        self.shorter([("jump", 2), ("jump", 3), ("jump", 1)], [], 0)
        self.shorter([("load", 0), ("branch", 2)], [], 0)
        self.shorter([YIELD, END, END], [], 1)
        self.shorter([("load", 0), ("branch", 5), ("load", 0), ("branch", 6), YIELD, END, END], [], 5)
        self.shorter([YIELD, END, RESUME], [(0, 2, 2, "clean", 0)], 3, 1)
        self.shorter([YIELD, SETTLE, END], [(0, 1, 2, "clean", 0)], 3, 1)

    def test_circles_that_are_never_entered(self):
        for circle, size in (
            ([("jump", 5)], 6), ([("jump", 6), ("jump", 5)], 6), ([("jump", 6), ("jump", 7), ("jump", 5)], 6),
            ([("jump", 7), ("jump", 5), ("jump", 6)], 8),
        ):
            code = [("load", 0), ("push", 5), ("apply", "="), ("branch", 5), END, *circle]
            self.shorter(code, [], size, count=1)
            entered = [("load", 0), ("branch", 5), YIELD, YIELD, ("jump", 5), *circle, YIELD]
            self.tidied([function(entered, count=1)])
            self.shorter([END, END, END, END, END, *circle], [], 0)

    def test_known_values(self):
        self.shorter([("push", 2), ("push", 3), ("apply", "+"), EMIT], [], 2)
        self.shorter([("push", True), ("apply", "not"), ("branch", 4), YIELD], [], 0)
        after = self.shorter([("push", 4), ("push", 3), ("apply", "<"), ("branch", 5), YIELD, ("push", 9), EMIT], [], 2)
        self.assertEqual(after[3], [("push", 9), EMIT])
        after = self.shorter([("push", 3), ("push", 4), ("apply", "<"), ("branch", 5), YIELD, ("push", 9), EMIT], [], 3)
        self.assertEqual(after[3], [YIELD, ("push", 9), EMIT])
        after = self.shorter([("push", 1), *[("push", 1000000000), ("apply", "+")] * 40, EMIT], [], 2)
        self.assertEqual(after[3][0], ("push", (1 + 40 * 1000000000 + 10 ** 9) % (2 * 10 ** 9 + 1) - 10 ** 9))

    def test_values_of_all_signs(self):
        for sign in ("+", "-", "*", "<", "<=", "=", "and", "or"):
            for first in (True, False) if sign in ("and", "or") else (3, 4):
                for second in (True, False) if sign in ("and", "or") else (3, 4, -5):
                    code = [function([("push", first), ("push", second), ("apply", sign), ("complete", "return")])]
                    tidy = self.tidied(code)
                    self.assertEqual(len(tidy[0][3]), 2)
                    self.same_turns(code, tidy, "f", [], [])

    def test_values_that_are_not_used(self):
        self.shorter([("load", 0), ("push", 2), ("apply", "+"), ("store", 1), YIELD], [], 1, count=1)
        self.shorter([("load", 0), ("store", 0), YIELD], [], 1, count=1)
        self.shorter([("push", 2), ("store", 1), ("load", 1), EMIT], [], 2)
        self.shorter([("push", 2), ("store", 1), ("load", 1), EMIT, ("load", 1), EMIT], [], 6)
        self.shorter([("ask", "now", 0, 1), ("load", 1), ("store", 2), YIELD], [], 2)
        code = [function([("push", 1), ("select", [("after", None)], False), ("store", 1)])]
        self.assertEqual(self.tidied(code), code)

    def test_values_into_which_something_leads(self):
        # The branch leads to the store with a value of its own, so neither part of the pair is left out.
        code = [("load", 0), ("push", 5), ("apply", "="), ("branch", 6), ("push", 1), ("jump", 7), ("push", 2),
                ("store", 1), ("load", 1), EMIT]
        after = self.shorter(code, [], 8, count=1)
        self.assertNotIn(("store", 1), after[3])
        code = [("load", 0), ("push", 5), ("apply", "="), ("branch", 5), YIELD, ("push", 1), ("load", 0),
                ("push", 5), ("apply", "="), ("branch", 12), ("push", 2), ("jump", 13), ("push", 3), ("apply", "+"),
                EMIT]
        self.shorter(code, [], 15, count=1)

    def test_guards_that_take_nothing(self):
        self.shorter([("push", 1), ("store", 0), ("jump", 4), ("catch", 0), ("load", 0), EMIT],
            [(0, 2, 3, "catch", 0)], 2)
        self.shorter([("ask", "shield", 0, None), SETTLE, RESUME], [(0, 1, 2, "clean", 0)], 3)
        self.shorter([YIELD, END, ("catch", 0), END, ("catch", 1), ("load", 1), EMIT],
            [(0, 1, 2, "catch", 0), (0, 1, 4, "catch", 0)], 3, 1)
        self.shorter([YIELD, END, RESUME, END, ("catch", 1), YIELD],
            [(0, 1, 2, "clean", 0), (0, 1, 4, "catch", 0)], 3, 1)
        self.shorter([("complete", "end"), ("catch", 0), YIELD], [(0, 1, 1, "catch", 0)], 0)
        self.shorter([YIELD, SETTLE, RESUME], [(0, 1, 2, "clean", 0)] * 5, 3, 1)

    def test_guards_that_take_something(self):
        after = self.shorter([YIELD, END, ("catch", 0), END, YIELD, RESUME],
            [(0, 1, 2, "catch", 0), (0, 1, 4, "clean", 0)], 6, 2)
        self.assertEqual(after[4], [(0, 1, 2, "catch", 0), (0, 1, 4, "clean", 0)])
        self.shorter([("push", 1), ("complete", "throw"), ("catch", 0), YIELD], [(0, 2, 2, "catch", 0)], 4, 1)
        self.shorter([END, YIELD, RESUME], [(0, 1, 1, "clean", 0)], 3, 1)

    def test_guards_that_cover_their_targets(self):
        self.shorter([YIELD, END, YIELD, RESUME], [(0, 4, 2, "clean", 0)], 4, 1)
        self.shorter([YIELD, END, ("catch", 1), YIELD], [(0, 4, 2, "catch", 0)], 4, 1)
        self.shorter([YIELD, SETTLE, ("ask", "unveil", 0, None), RESUME], [(0, 3, 2, "clean", 0)], 4, 1)

    LAYERS = [
        SETTLE, YIELD, RESUME, ("load", 0), ("store", 1), SETTLE, YIELD, RESUME, END, RESUME, RESUME, END,
        ("catch", 2), ("load", 2), EMIT, ("load", 1), EMIT, RESUME, END, ("catch", 2), ("load", 2), EMIT, END,
    ]

    def test_a_clean_guard_before_ones_that_do_not_fit(self):
        # The second guard takes nothing at the load, but the third one, which is deeper, must not cover it.
        guards = [(6, 7, 12, "catch", 1), (2, 6, 10, "clean", 0), (1, 7, 9, "clean", 1)]
        after = self.shorter(self.LAYERS, guards, 18, 3, count=1)
        self.assertEqual(after[4], guards)
        guards.insert(1, (3, 6, 19, "catch", 0))
        after = self.shorter(self.LAYERS, guards, 18, 3, count=1)
        self.assertEqual(after[4], [guards[0], *guards[2:]])
        guards[1] = (2, 6, 19, "catch", 0)
        after = self.shorter(self.LAYERS, guards, 22, 4, count=1)
        self.assertEqual(after[4], [guards[0], (2, 3, 19, "catch", 0), *guards[2:]])

    def test_guards_of_all_ranges_that_cover_each_other(self):
        targets = [(12, "catch", 1), (10, "clean", 0), (9, "clean", 1), (19, "catch", 0)]
        valid = 0
        chance = random.Random(7)
        for _ in range(6000):
            guards = []
            for _ in range(chance.randrange(2, 6)):
                first = chance.randrange(8)
                guards.append((first, chance.randrange(first + 1, 9), *chance.choice(targets)))
            code = [function(self.LAYERS, guards, count=1)]
            try:
                check_code(code)
            except BadCode:
                continue
            valid += 1
            tidy = self.tidied(code)
            for replies in ([NONE, REPLIES[2], NONE, NONE], [REPLIES[2], NONE, NONE], [NONE, REPLIES[3], NONE],
                            [REPLIES[3], NONE], [NONE] * 4):
                self.same_turns(code, tidy, "f", [5], replies)
        self.assertGreater(valid, 600)

    def test_many_functions(self):
        code = [function([YIELD, END, YIELD], name=f"f{k}", count=k % 5, slots=5) for k in range(8)]
        tidy = self.tidied(code)
        self.assertEqual([len(part[3]) for part in tidy], [1] * 8)

    def test_the_codes_at_the_bounds(self):
        for code in (full_code(), greatest_code()):
            tidy = tidy_code(code)
            check_code(tidy)
            self.assertEqual(repr(tidy_code(tidy)), repr(tidy))
            self.assertTrue(all(len(after[3]) <= len(before[3]) for before, after in zip(code, tidy)))
        chain = [*[("jump", k) for k in range(1, 2000)], *[("jump", k) for k in range(1998, -1, -1)]]
        self.tidied([function(chain)])
        self.tidied([function([*[("jump", k) for k in range(1, 4000)], ("jump", 0)])])
        self.tidied([function([*[("jump", k) for k in range(1, 4001)]])])


class Refusals(Tidied):
    def test_codes_that_are_not_valid(self):
        for value in ODD_VALUES:
            self.assertRaises(BadCode, tidy_code, value)
            self.assertRaises(BadCode, tidy_code, [value])
            self.assertRaises(BadCode, tidy_code, [function([]), value])
        for instructions in ([("store", 0)], [RESUME], [("catch", 0)], [("jump", 5)], [("load", 9)], [("push", None)]):
            self.assertRaises(BadCode, tidy_code, [function(instructions)])
        self.assertRaises(BadCode, tidy_code, [function([]), function([])])
        self.assertRaises(BadCode, tidy_code, [])
        self.assertRaises(BadCode, tidy_code, sample_program())

    def test_values_of_all_kinds_in_place_of_each_part(self):
        chance = random.Random(5)
        places = list(paths(full_code()))
        for path in chance.sample(places, 120):
            for value in (None, True, -1, 401, "x", [], ()):
                changed = replaced(full_code(), path, value)
                try:
                    check_code(changed)
                except BadCode:
                    self.assertRaises(BadCode, tidy_code, changed)
                else:
                    self.tidied(changed)

    def test_the_code_stays_and_the_result_is_new(self):
        for seed in range(40):
            self.assertTrue(unchanged_by(tidy_code, CodeMaker(seed).code()))
            self.assertTrue(unchanged_by(tidy_code, compile_program(ProgramMaker(seed).program())))
        code = full_code()
        first, second = tidy_code(code), tidy_code(code)
        self.assertEqual(first, second)
        self.assertFalse(shared_lists(first, second))
        for part in nested_lists(first):
            part.clear()
        self.assertEqual(repr(code), repr(full_code()))
        self.assertEqual(tidy_code(code), second)

    def test_a_list_at_two_places_of_the_code(self):
        shape, guards = [("after", None)], []
        instructions = [("push", 1), ("select", shape, False), ("push", 1), ("select", shape, False)]
        code = [("f", 0, 0, instructions, guards), ("g", 0, 0, instructions, guards)]
        self.assertFalse(repeats_a_list(tidy_code(code)))


class ManyCodes(Tidied):
    def test_random_codes(self):
        compared = left_out = 0
        for seed in range(1500):
            code = CodeMaker(seed).code()
            tidy = self.tidied(code)
            left_out += sum(len(before[3]) - len(after[3]) for before, after in zip(code, tidy))
            maker = ProgramMaker(seed)
            for name, count, _, _, _ in code:
                for _ in range(2):
                    args = [maker.random.randrange(6) for _ in range(count)]
                    replies = replies_to(code, name, args, maker)
                    if not runs_long(code, name, args, replies):
                        compared += self.same_turns(code, tidy, name, args, replies)
        self.assertGreater(compared, 10000)
        self.assertGreater(left_out, 10000)

    def test_instructions_put_into_compiled_programs(self):
        """Jumps to jumps, jumps to the end and instructions that are not reached stand between others."""
        for seed in range(60):
            chance = random.Random(seed)
            maker = ProgramMaker(seed)
            program = maker.program()
            code = [spread(part, chance) for part in compile_program(program)]
            check_code(code)
            tidy = self.tidied(code)
            for name, params, _, _ in program:
                args = maker.args_for(params)
                replies = maker.replies_for(Direct(program, name, args), 60, True)
                expected = turns_of(Direct(program, name, args), replies)
                self.assertEqual(repr(turns_of(Machine(code, name, args), replies)), repr(expected))
                self.assertEqual(repr(turns_of(Machine(tidy, name, args), replies)), repr(expected))

    def test_all_kinds_of_coroutines_make_the_same_turns(self):
        words = set()
        for seed in range(250):
            maker = ProgramMaker(1000 + seed)
            program = maker.program()
            code = compile_program(program)
            tidy = self.tidied(code)
            again = [unpack_code(pack_code(part)) for part in (code, tidy)]
            self.assertEqual(repr(again), repr([code, tidy]))
            for name, params, _, _ in program:
                for friendly in (True, False, True):
                    args = maker.args_for(params)
                    replies = maker.replies_for(Direct(program, name, args), 60, friendly)
                    expected = turns_of(Direct(program, name, args), replies)
                    words |= {turn[1][0] for turn in expected}
                    for kind in (code, tidy, *again):
                        self.assertEqual(repr(turns_of(Machine(kind, name, args), replies)), repr(expected))
        self.assertEqual(len(words), 18 + 3)

    def test_bodies_nested_eight_deep(self):
        for outer in WRAPS.values():
            for inner in WRAPS.values():
                body = [("let", "x", 1), ("emit", "x"), ("yield",)]
                for wrap in (inner, outer, inner, outer, inner, outer, inner):
                    body = [("emit", 7), wrap(body)] if wrap is outer else [wrap(body), ("sleep", 2)]
                program = main_with(renamed(body, [0]))
                check_program(program)
                code = compile_program(program)
                tidy = self.tidied(code)
                maker = ProgramMaker(3)
                for friendly in (True, False, True):
                    replies = maker.replies_for(Direct(program, "main", []), 50, friendly)
                    expected = turns_of(Direct(program, "main", []), replies)
                    for kind in (code, tidy):
                        self.assertEqual(repr(turns_of(Machine(kind, "main", []), replies)), repr(expected))

    def test_a_compiled_program_becomes_shorter(self):
        code = compile_program(sample_program())
        tidy = self.tidied(code)
        self.assertLess(len(tidy[2][3]), len(code[2][3]))


def renamed(value, count):
    """Return a body in which each try has a variable of its own."""
    if isinstance(value, list):
        return [renamed(part, count) for part in value]
    if isinstance(value, tuple) and value[:1] == ("try",):
        count[0] += 1
        return ("try", renamed(value[1], count), f"e{100 + count[0]}", renamed(value[3], count))
    if isinstance(value, tuple):
        return tuple(renamed(part, count) for part in value)
    return value


def spread(part, chance):
    """Put jumps to the next instruction, and instructions that are not reached, into a function of a code."""
    name, count, slots, instructions, guards = part
    places, found = [], []
    for instruction in instructions:
        many = chance.choice([0, 0, 1, 2, 3])
        start = len(found)
        stop = start + many
        if instruction[0] == "catch":
            # A catch is not reached by a jump, so what stands before it is not reached at all.
            found.extend([END] * many)
            places.append(stop)
        else:
            found.extend([("put", chance.randrange(start + k + 1, stop + 1)) for k in range(many)])
            places.append(start)
        found.append(instruction)
    places.append(len(found))
    aimed = []
    for instruction in found:
        if instruction[0] in ("jump", "branch"):
            aimed.append((instruction[0], places[instruction[1]]))
        else:
            aimed.append(("jump", instruction[1]) if instruction[0] == "put" else instruction)
    covering = []
    for first, last, target, word, depth in guards:
        covering.append((places[first], places[last], places[target], word, depth))
    return (name, count, slots, aimed, covering)


if __name__ == "__main__":
    unittest.main()
