"""Which programs are valid, the kinds of their variables, and reading their written form (points 8 to 14)."""

from seedbed.errors import BadProgram, BadText, OutOfRange
from seedbed.form import check_form
from seedbed.notation import format_program
from seedbed.reading import read_program
from seedbed.rules import variables_of

LONGEST_TEXT = 20000


def check_program(program):
    """Return None if a value of any kind is a valid program; raise BadProgram otherwise."""
    check_form(program)
    for index in range(len(program)):
        variables_of(program, index)
    if len(format_program(program)) > LONGEST_TEXT:
        raise BadProgram("the written form has at most 20000 characters")


def kinds_in(program, name):
    """Return the params and then the variables of a function, (name, kind), as they are written."""
    names = [function[0] for function in program]
    if name not in names:
        raise OutOfRange("the program has no function of this name")
    return variables_of(program, names.index(name))


def parse_program(text):
    """Return the valid program whose written form the text is."""
    if len(text) > LONGEST_TEXT:
        raise BadText("a text has at most 20000 characters")
    if not all(mark == "\n" or " " <= mark <= "~" for mark in text):
        raise BadText("a text has the characters from the space to ~ and newlines")
    program = read_program(text)
    check_program(program)
    # The reader takes also what is not written so, for example 01 or two spaces before a word.
    if format_program(program) != text:
        raise BadText("the text is not the written form of a program")
    return program
