"""The binary form of codes (point 24).

Each value is written as a mark, one octet, and what belongs to it: a list or a tuple as its length
and its parts, a name as its length and its characters, a number as its size. Lengths and sizes are
written seven bits at a time, the lowest ones first; an octet of at least 128 tells that more follow.
"""

from seedbed.code import check_code
from seedbed.errors import BadCode, BadOctets
from seedbed.program import LETTERS_AND_DIGITS, is_integer

# None, True and False have the marks 0 to 2, their places here.
CONSTANTS = (None, True, False)
LIST = 3
TUPLE = 4
NAME = 5
NUMBER = 6
NEGATIVE = 7
FIRST_WORD = 8

# The words and signs that a code has besides the names of functions: each one is a mark of its own.
WORDS = (
    "push", "load", "store", "apply", "jump", "branch", "ask", "spawn", "select", "enter", "call", "complete",
    "settle", "resume", "leave", "catch", "yield", "now", "shield", "unveil", "sleep", "emit", "await", "cancel",
    "open", "receive", "close", "acquire", "release", "send", "after", "return", "end", "throw", "clean",
    "not", "+", "-", "*", "<", "<=", "=", "and", "or",
)
FIRST_SMALL = 128

MORE = 128
MOST_GROUPS = 5
DEEPEST = 7


def pack_code(code):
    """Return the octets of a valid code."""
    check_code(code)
    return octets_of(code)


def unpack_code(octets):
    """Return the code of which these are the octets."""
    if not all(is_integer(octet) and 0 <= octet <= 255 for octet in octets):
        raise BadOctets("an octet is from 0 to 255")
    reader = Reader(octets)
    code = reader.take_value(1)
    try:
        check_code(code)
    except BadCode:
        raise BadOctets("the octets are not those of a valid code") from None
    # Only one form of each code is taken; this refuses also octets behind its end.
    if octets_of(code) != octets:
        raise BadOctets("the octets are not the packed form of their code")
    return code


def octets_of(value):
    """Return the octets of a value of a code."""
    if is_integer(value):
        return octets_of_integer(value)
    if isinstance(value, str):
        return octets_of_string(value)
    if value is None or isinstance(value, bool):
        return [CONSTANTS.index(value)]
    octets = [LIST if isinstance(value, list) else TUPLE, *groups_of(len(value))]
    for part in value:
        octets.extend(octets_of(part))
    return octets


def octets_of_string(string):
    """Return the octets of a word, a sign or a name."""
    if string in WORDS:
        return [FIRST_WORD + WORDS.index(string)]
    return [NAME, len(string), *[LETTERS_AND_DIGITS.index(mark) for mark in string]]


def octets_of_integer(number):
    """Return the octets of an integer; a small one is a mark of its own."""
    if number < 0:
        return [NEGATIVE, *groups_of(-number)]
    if number < MORE:
        return [FIRST_SMALL + number]
    return [NUMBER, *groups_of(number)]


def groups_of(size):
    """Return the octets of a length or of the size of a number."""
    groups = []
    while size >= MORE:
        groups.append(MORE + size % MORE)
        size //= MORE
    groups.append(size)
    return groups


class Reader:
    """Takes values from octets, one after the other.

    It takes also values that are not written so, or that are no codes: unpack_code looks at this
    afterwards. It only bounds what could take long: the depth and the sizes.
    """

    def __init__(self, octets):
        self._octets = octets
        self._at = 0

    def _take(self):
        if self._at == len(self._octets):
            raise BadOctets("the octets end too early")
        self._at += 1
        return self._octets[self._at - 1]

    def _take_size(self):
        """Take a length or the size of a number."""
        size = 0
        unit = 1
        for _ in range(MOST_GROUPS):
            group = self._take()
            size += group % MORE * unit
            if group < MORE:
                return size
            unit *= MORE
        raise BadOctets("a size has at most 5 octets")

    def take_value(self, level):
        """Take a value; level is 1 more than the number of the lists and tuples around it."""
        if level > DEEPEST:
            raise BadOctets("values are nested too deep")
        mark = self._take()
        if mark < len(CONSTANTS):
            return CONSTANTS[mark]
        if mark == LIST:
            return self._take_parts(level)
        if mark == TUPLE:
            return tuple(self._take_parts(level))
        if mark == NAME:
            return self._take_name()
        if mark == NUMBER:
            return self._take_size()
        if mark == NEGATIVE:
            return -self._take_size()
        if mark >= FIRST_SMALL:
            return mark - FIRST_SMALL
        if mark - FIRST_WORD < len(WORDS):
            return WORDS[mark - FIRST_WORD]
        raise BadOctets("there is no such mark")

    def _take_parts(self, level):
        length = self._take_size()
        return [self.take_value(level + 1) for _ in range(length)]

    def _take_name(self):
        places = [self._take() for _ in range(self._take())]
        if not all(place < len(LETTERS_AND_DIGITS) for place in places):
            raise BadOctets("a name has letters and digits only")
        return "".join([LETTERS_AND_DIGITS[place] for place in places])
