"""Names, numbers and programs, and the values of expressions (points 3 to 7 and 17)."""

from seedbed.errors import OutOfRange

GREATEST = 1000000000
NUMBERS = 2000000001

LONGEST_NAME = 12
LETTERS = "abcdefghijklmnopqrstuvwxyz"
LETTERS_AND_DIGITS = "abcdefghijklmnopqrstuvwxyz0123456789"
RESERVED = (
    "int", "bool", "channel", "task", "none", "true", "false", "not", "and", "or", "func", "let", "set", "emit",
    "if", "else", "while", "return", "throw", "try", "catch", "finally", "scope", "watch", "shield", "using",
    "spawn", "await", "cancel", "open", "send", "receive", "close", "sleep", "yield", "now", "call", "select",
    "after", "default", "end",
)


def is_name(value):
    """Tell whether a value of any kind is a name."""
    if not isinstance(value, str) or not 1 <= len(value) <= LONGEST_NAME:
        return False
    if value[0] not in LETTERS or value in RESERVED:
        return False
    return all(mark in LETTERS_AND_DIGITS for mark in value)


def is_integer(value):
    """Tell whether a value of any kind is an integer; True and False are none."""
    return isinstance(value, int) and not isinstance(value, bool)


def is_number(value):
    """Tell whether a value of any kind is a number of the language."""
    return is_integer(value) and -GREATEST <= value <= GREATEST


def fitted(number):
    """Return the number that an integer of any size is fitted to."""
    return (number + GREATEST) % NUMBERS - GREATEST


def value_of(expression, values):
    """Return the value of an expression; values is a dict from names to values."""
    if isinstance(expression, str):
        return values[expression]
    if not isinstance(expression, tuple):
        return expression
    parts = [value_of(part, values) for part in expression[1:]]
    return applied(expression[0], parts)


def applied(sign, parts):
    """Return what a sign, or the word not, gives for the list of its values."""
    if sign == "not":
        return not parts[0]
    first, second = parts
    match sign:
        case "+":
            return fitted(first + second)
        case "-":
            return fitted(first - second)
        case "*":
            return fitted(first * second)
        case "<":
            return first < second
        case "<=":
            return first <= second
        case "=":
            return first == second
        case "and":
            return first and second
    return first or second


def function_named(program, name):
    """Return the function of a program that has this name."""
    for function in program:
        if function[0] == name:
            return copied(function)
    raise OutOfRange("the program has no function of this name")


def copied(value):
    """Return a copy in which each list is new and stands at one place only.

    A list that the value holds at two places becomes two lists: nothing that
    is changed at one of the places is then seen at the other one.
    """
    if isinstance(value, list):
        return [copied(part) for part in value]
    if isinstance(value, tuple):
        return tuple([copied(part) for part in value])
    return value
