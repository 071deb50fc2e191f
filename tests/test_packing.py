"""Point 24: packing codes to octets, and unpacking them."""

import random
import unittest

from codes import END, RESUME, YIELD, CodeMaker, full_code, function, greatest_code
from helper import (
    ODD_VALUES, ProgramMaker, nested_lists, paths, repeats_a_list, replaced, sample_program, shared_lists,
    unchanged_by,
)
from seedbed.code import check_code
from seedbed.compiler import compile_program
from seedbed.errors import BadCode, BadOctets
from seedbed.packing import pack_code, unpack_code
from seedbed.tidy import tidy_code

SMALL = [function([("push", 300), ("store", 0), YIELD, END, ("catch", 1)], [(0, 3, 4, "catch", 0)], count=1, slots=2)]


class Packed(unittest.TestCase):
    def same(self, code):
        octets = pack_code(code)
        self.assertIs(type(octets), list)
        self.assertTrue(all(type(octet) is int and 0 <= octet <= 255 for octet in octets))
        again = unpack_code(octets)
        self.assertEqual(repr(again), repr(code))
        self.assertFalse(repeats_a_list(again))
        self.assertFalse(shared_lists(again, code))
        return octets


class ThereAndBack(Packed):
    def test_codes_with_all_instructions_and_the_bounds(self):
        self.same(full_code())
        self.same(greatest_code())
        self.same([function([], slots=0)])
        self.same([function([], name=f"abcdefghijk{k}", count=4, slots=400) for k in range(8)])
        self.same([function([], name="a", slots=0)])

    def test_random_codes(self):
        for seed in range(600):
            self.same(CodeMaker(seed).code())

    def test_compiled_and_tidied_programs(self):
        for program in [sample_program(), *[ProgramMaker(seed).program() for seed in range(100)]]:
            code = compile_program(program)
            self.same(code)
            self.same(tidy_code(code))

    def test_numbers(self):
        for value in (0, 1, 2, 126, 127, 128, 129, 255, 256, 16383, 16384, 16385, 2097151, 2097152, 268435455,
                      268435456, 999999999, 1000000000):
            self.same([function([("push", value)])])
            self.same([function([("push", -value)])])

    def test_true_and_1_and_none_and_0_are_different(self):
        pairs = [
            ([("push", True)], [("push", 1)]), ([("push", False)], [("push", 0)]), ([("push", 0)], [("push", True)]),
            ([("ask", "now", 0, None)], [("ask", "now", 0, 0)]),
            ([("push", 1), ("select", [("after", None)], True)], [("push", 1), ("select", [("after", 0)], True)]),
        ]
        for first, second in pairs:
            octets = [self.same([function(first)]), self.same([function(second)])]
            self.assertNotEqual(octets[0], octets[1])

    def test_names_that_are_words_of_codes(self):
        names = ["push", "load", "store", "ask", "settle", "leave", "clean", "resume"]
        self.same([function([("spawn", "store", 0, None)], name=name) for name in names])
        code = [*[function([], name=name) for name in names[:7]], function([("call", "ask", 0, None)])]
        self.same(code)

    def test_different_codes_have_different_octets(self):
        seen = {}
        for seed in range(600):
            code = CodeMaker(seed).code()
            seen.setdefault(tuple(pack_code(code)), set()).add(repr(code))
        self.assertTrue(all(len(codes) == 1 for codes in seen.values()))

    def test_the_arguments_stay_and_the_results_are_new(self):
        self.assertTrue(unchanged_by(pack_code, full_code()))
        octets = pack_code(full_code())
        self.assertTrue(unchanged_by(unpack_code, octets))
        self.assertIsNot(pack_code(full_code()), octets)
        first, second = unpack_code(octets), unpack_code(octets)
        self.assertFalse(shared_lists(first, second))
        for part in nested_lists(first):
            part.clear()
        octets.clear()
        self.assertEqual(repr(second), repr(full_code()))

    def test_a_list_at_two_places(self):
        shape, guards = [("after", None)], []
        instructions = [("push", 1), ("select", shape, False), ("push", 1), ("select", shape, False)]
        self.same([("f", 0, 0, instructions, guards), ("g", 0, 0, instructions, guards)])


class BadCodes(unittest.TestCase):
    def test_codes_that_are_not_valid(self):
        for value in ODD_VALUES:
            self.assertRaises(BadCode, pack_code, value)
            self.assertRaises(BadCode, pack_code, [value])
        for instructions in ([("store", 0)], [RESUME], [("catch", 0)], [("jump", 5)], [("push", 10 ** 9 + 1)]):
            self.assertRaises(BadCode, pack_code, [function(instructions)])
        self.assertRaises(BadCode, pack_code, [])

    def test_values_of_all_kinds_in_place_of_each_part(self):
        for path in paths(SMALL):
            for value in (None, True, False, 0, -1, 10 ** 30, "x", "push", [], (), [None], ("load", 0)):
                changed = replaced(SMALL, path, value)
                try:
                    check_code(changed)
                except BadCode:
                    self.assertRaises(BadCode, pack_code, changed)
                else:
                    self.assertEqual(repr(unpack_code(pack_code(changed))), repr(changed))


class BadOctetLists(unittest.TestCase):
    def refused_or_own(self, octets):
        """Either the octets are refused, or they are exactly those of a valid code."""
        try:
            code = unpack_code(octets)
        except BadOctets:
            return True
        check_code(code)
        self.assertEqual(pack_code(code), octets)
        return False

    def refused(self, octets):
        self.assertRaises(BadOctets, unpack_code, octets)

    def test_each_octet_changed(self):
        octets = pack_code(SMALL)
        for at in range(len(octets)):
            for octet in range(256):
                self.refused_or_own([*octets[:at], octet, *octets[at + 1:]])
            for octet in (-1, 256, octets[at] + 256, octets[at] - 256, -10 ** 30, 10 ** 30):
                self.refused([*octets[:at], octet, *octets[at + 1:]])

    def test_each_octet_left_out(self):
        for code in (SMALL, full_code(), compile_program(sample_program())):
            octets = pack_code(code)
            for at in range(len(octets)):
                self.refused_or_own([*octets[:at], *octets[at + 1:]])

    def test_an_octet_put_in_at_each_place(self):
        octets = pack_code(SMALL)
        for at in range(len(octets) + 1):
            for octet in range(256):
                self.refused_or_own([*octets[:at], octet, *octets[at:]])

    def test_most_changes_are_refused(self):
        octets = pack_code(full_code())
        refused = sum(self.refused_or_own([*octets[:at], 0, *octets[at:]]) for at in range(len(octets) + 1))
        self.assertEqual(refused, len(octets) + 1)

    def test_the_end_cut_off_at_each_place(self):
        for code in (SMALL, full_code()):
            octets = pack_code(code)
            for size in range(len(octets)):
                self.refused(octets[:size])

    def test_octets_behind_the_end(self):
        for code in (SMALL, full_code()):
            octets = pack_code(code)
            for octet in range(256):
                self.refused([*octets, octet])
            self.refused([*octets, *octets])
            self.refused([*octets, 0, 0])

    def test_octets_before_the_beginning(self):
        octets = pack_code(SMALL)
        for octet in range(256):
            self.refused([octet, *octets])

    def test_short_lists(self):
        self.refused([])
        for first in range(256):
            self.refused([first])
            for second in range(256):
                self.refused([first, second])

    def test_numbers_that_are_no_octets(self):
        octets = pack_code(SMALL)
        for number in (-1, 256, 257, -256, 10 ** 100, -(10 ** 100), 2 ** 64):
            self.refused([number])
            self.refused([*octets, number])
            self.refused([number, *octets])
            for at in range(len(octets)):
                self.refused([*octets[:at], number, *octets[at:]])

    def test_random_lists(self):
        chance = random.Random(8)
        for _ in range(4000):
            self.refused([chance.randrange(256) for _ in range(chance.randrange(60))])
        marks = pack_code(full_code())[:40]
        for _ in range(4000):
            self.refused_or_own([chance.choice(marks) for _ in range(chance.randrange(40))])

    def test_many_changes_at_once(self):
        chance = random.Random(9)
        for code in (SMALL, full_code(), compile_program(sample_program())):
            octets = pack_code(code)
            for _ in range(800):
                changed = list(octets)
                for _ in range(chance.randrange(1, 4)):
                    at = chance.randrange(len(changed))
                    changed[at:at + chance.randrange(3)] = [chance.choice(octets)] * chance.randrange(3)
                self.refused_or_own(changed)

    def test_lists_that_tell_of_great_lengths(self):
        for octet in range(256):
            self.refused([octet] * 2000)
            for second in (0, 127, 128, 255):
                self.refused([octet, second] * 2000)
                self.refused([octet, 255, 255, 255, 255, 127, *[second] * 500])


if __name__ == "__main__":
    unittest.main()
