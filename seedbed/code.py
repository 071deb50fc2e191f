"""Which codes are valid (points 19 to 21): their form, and, with seedbed/reach.py, what is reached in them."""

from seedbed.errors import BadCode
from seedbed.form import SIGNS, has_word
from seedbed.program import is_integer, is_name, is_number
from seedbed.reach import reached_in, need

MOST_FUNCTIONS = 8
MOST_PARAMS = 4
MOST_SLOTS = 400
MOST_INSTRUCTIONS = 4000
MOST_GUARDS = 400
MOST_ITEMS = 4
DEEPEST_GUARD = 19

# The number of values that each word of an ask takes.
ASKS = {
    "yield": 0,
    "now": 0,
    "shield": 0,
    "unveil": 0,
    "sleep": 1,
    "emit": 1,
    "await": 1,
    "cancel": 1,
    "open": 1,
    "receive": 1,
    "close": 1,
    "acquire": 1,
    "release": 1,
    "send": 2,
}
ITEMS = ("send", "receive", "after")
ENDS = ("return", "end", "throw")
GUARDS = ("catch", "clean")


def check_code(code):
    """Return None if a value of any kind is a valid code; raise BadCode otherwise."""
    need(isinstance(code, list), "a code is a list")
    need(1 <= len(code) <= MOST_FUNCTIONS, "a code has 1 to 8 functions")
    for function in code:
        check_head(function)
    names = [function[0] for function in code]
    need(len(set(names)) == len(names), "the names of the functions differ")
    counts = {function[0]: function[1] for function in code}
    for index, function in enumerate(code):
        check_function(function, counts, names[:index])


def check_head(function):
    """Check the parts of a function, without looking into its instructions and guards."""
    need(isinstance(function, tuple) and len(function) == 5, "a function is a tuple of 5 parts")
    name, count, slots, instructions, guards = function
    need(is_name(name), "the name of a function is a name")
    need(is_within(slots, 0, MOST_SLOTS), "a function has at most 400 slots")
    need(is_within(count, 0, MOST_PARAMS) and count <= slots, "a function has at most 4 params, and slots for them")
    need(is_list_within(instructions, MOST_INSTRUCTIONS), "a function has at most 4000 instructions")
    need(is_list_within(guards, MOST_GUARDS), "a function has at most 400 guards")


def check_function(function, counts, earlier):
    """Check a function whose head is right.

    counts is a dict from the names of all functions to the numbers of their params, earlier the
    list of the names of the functions that stand before this one.
    """
    _, _, slots, instructions, guards = function
    for instruction in instructions:
        need(has_word(instruction), "an instruction is a tuple that begins with a word")
        check_instruction(instruction, slots, len(instructions))
        check_named(instruction, counts, earlier)
    for guard in guards:
        check_guard(guard, instructions)
    reached_in(instructions, guards)


def is_within(value, least, greatest):
    """Tell whether a value of any kind is an integer in this range."""
    return is_integer(value) and least <= value <= greatest


def is_list_within(value, most):
    """Tell whether a value of any kind is a list that is not longer than this."""
    return isinstance(value, list) and len(value) <= most


def is_word_of(value, words):
    """Tell whether a value of any kind is one of the words; words is a tuple."""
    return isinstance(value, str) and value in words


def is_slot(value, slots):
    """Tell whether a value of any kind is one of the slots."""
    return is_within(value, 0, slots - 1)


def is_slot_or_none(value, slots):
    """Tell whether a value of any kind is one of the slots, or None."""
    return value is None or is_slot(value, slots)


def is_count_for(word, count):
    """Tell whether two values of any kind are the word of an ask and the number of its values."""
    return isinstance(word, str) and word in ASKS and is_integer(count) and count == ASKS[word]


def check_instruction(instruction, slots, size):
    """Check the form of an instruction in a function with so many slots and instructions."""
    match instruction:
        case ("push", value):
            need(isinstance(value, bool) or is_number(value), "push has a number, True or False")
        case ("load" | "store" | "catch", slot):
            need(is_slot(slot, slots), "a slot is in range")
        case ("apply", sign):
            need(isinstance(sign, str) and sign in SIGNS, "apply has one of the signs")
        case ("jump" | "branch", target):
            need(is_within(target, 0, size), "a target is in range")
        case ("ask", word, count, slot):
            need(is_count_for(word, count), "an ask has one of the words and as many values as it takes")
            need(is_slot_or_none(slot, slots), "a slot is in range")
        case ("spawn" | "call", _, _, slot):
            need(is_slot_or_none(slot, slots), "a slot is in range")
        case ("select", shape, default):
            need(isinstance(default, bool), "whether there is a default is True or False")
            check_shape(shape, slots)
        case ("enter", timed, watched):
            need(isinstance(timed, bool) and isinstance(watched, bool), "enter has two parts that are True or False")
        case ("complete", word):
            need(is_word_of(word, ENDS), "complete has one of the words")
        case ("settle",) | ("resume",) | ("leave",):
            pass
        case _:
            raise BadCode("an instruction has a known word and the right number of parts")


def check_shape(shape, slots):
    """Check the shape of a select."""
    need(isinstance(shape, list) and 1 <= len(shape) <= MOST_ITEMS, "a shape is a list of 1 to 4 items")
    for item in shape:
        need(isinstance(item, tuple) and len(item) == 2, "an item is a tuple of 2 parts")
        word, slot = item
        need(is_word_of(word, ITEMS) and is_slot_or_none(slot, slots), "an item has a word, and a slot or None")


def check_named(instruction, counts, earlier):
    """Check the function that a spawn or a call names, and the number of its values."""
    match instruction:
        case ("spawn" | "call", name, count, _):
            need(isinstance(name, str) and name in counts, "a function that is named exists")
            need(is_integer(count) and count == counts[name], "there are as many values as params")
            need(instruction[0] == "spawn" or name in earlier, "a function that is called stands before")


def check_guard(guard, instructions):
    """Check the form of a guard of a function whose instructions have the right form."""
    need(isinstance(guard, tuple) and len(guard) == 5, "a guard is a tuple of 5 parts")
    first, last, target, word, depth = guard
    size = len(instructions)
    need(is_within(last, 1, size), "a guard ends within the function")
    need(is_within(first, 0, last - 1), "a guard covers an instruction")
    need(is_within(target, 0, size - 1), "the target of a guard is an instruction")
    need(is_word_of(word, GUARDS), "the word of a guard is catch or clean")
    need(is_within(depth, 0, DEEPEST_GUARD), "the depth of a guard is from 0 to 19")
    catches = instructions[target][0] == "catch"
    need(catches == (word == "catch"), "the target of a guard is a catch exactly if its word is catch")
