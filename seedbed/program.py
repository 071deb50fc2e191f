"""Programs, and the values of their expressions (points 3 to 7 and 17)."""

from seedbed.errors import OutOfRange

GREATEST = 1000000000
NUMBERS = 2000000001


def fitted(number):
    """Return the number that an integer of any size is fitted to."""
    return (number + GREATEST) % NUMBERS - GREATEST


def value_of(expression, values):
    """Return the value of an expression; values is a dict from names to values."""
    if isinstance(expression, str):
        return values[expression]
    if not isinstance(expression, tuple):
        return expression
    parts = [value_of(part, values) for part in expression[1:]]
    return applied(expression[0], parts)


def applied(sign, parts):
    """Return what a sign, or the word not, gives for the list of its values."""
    if sign == "not":
        return not parts[0]
    first, second = parts
    match sign:
        case "+":
            return fitted(first + second)
        case "-":
            return fitted(first - second)
        case "*":
            return fitted(first * second)
        case "<":
            return first < second
        case "<=":
            return first <= second
        case "=":
            return first == second
        case "and":
            return first and second
    return first or second


def function_named(program, name):
    """Return the function of a program that has this name."""
    for function in program:
        if function[0] == name:
            return copied(function)
    raise OutOfRange("the program has no function of this name")


def copied(value):
    """Return a copy in which each list is new and stands at one place only.

    A list that the value holds at two places becomes two lists: nothing that
    is changed at one of the places is then seen at the other one.
    """
    if isinstance(value, list):
        return [copied(part) for part in value]
    if isinstance(value, tuple):
        return tuple([copied(part) for part in value])
    return value
