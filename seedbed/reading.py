"""Reading written forms (point 13).

What is read here need not be a valid program, and a text may be read that differs a little from
the written form of its program: parse_program (seedbed/checks.py) looks at both afterwards.
"""

from seedbed.errors import BadText
from seedbed.form import ARMS, BLOCKS, DEEPEST_BODY, DEEPEST_EXPRESSION, PLAIN, SIGNS
from seedbed.notation import INDENT

DIGITS = "0123456789"
MOST_DIGITS = 10


def read_program(text):
    """Return the program that a text of the allowed characters describes."""
    lines = text.split("\n")
    expect(lines.pop() == "", "each line has a newline at its end")
    reader = Lines(lines)
    program = []
    while reader.coming_level() is not None:
        program.append(reader.read_function())
    return program


def expect(holds, why):
    """Refuse a text if something does not hold for it."""
    if not holds:
        raise BadText(why)


def level_and_words(line):
    """Return the level and the words of a line."""
    inner = line.lstrip(" ")
    spaces = len(line) - len(inner)
    expect(spaces % len(INDENT) == 0, "a line begins with two spaces for each level")
    return spaces // len(INDENT), inner.split(" ")


def parts_of(words, roles):
    """Return the parts with these roles (seedbed/form.py) that stand in a line after its first word."""
    line = Words(words[1:])
    parts = [line.take_part(role) for role in roles]
    expect(not line.has_more(), "a line has no more words than its parts")
    return parts


def constant_or_name(word):
    """Return what a word stands for that is an expression of its own."""
    if word == "true":
        return True
    if word == "false":
        return False
    digits = word[1:] if word.startswith("-") else word
    if 1 <= len(digits) <= MOST_DIGITS and all(mark in DIGITS for mark in digits):
        return int(word)
    return word


class Words:
    """Takes the words of a line, one after the other."""

    def __init__(self, words):
        self._words = words
        self._at = 0

    def has_more(self):
        """Tell whether there is a word that was not taken."""
        return self._at < len(self._words)

    def take_part(self, role):
        """Take the words of a part with this role, and return the part."""
        match role:
            case "name":
                return self._take()
            case "name or none":
                word = self._take()
                return None if word == "none" else word
            case "args":
                found = []
                while self.has_more():
                    found.append(self._take_expression(1))
                return found
        found = self._take_expression(1)
        # As an expression, the word none is read like a name.
        return None if role == "int or none" and found == "none" else found

    def _take(self):
        expect(self.has_more(), "a line has as many words as its parts")
        word = self._words[self._at]
        self._at += 1
        return word

    def _take_expression(self, level):
        word = self._take()
        if word not in SIGNS:
            return constant_or_name(word)
        expect(level < DEEPEST_EXPRESSION, "the depth of an expression is at most 8")
        count, _, _ = SIGNS[word]
        parts = [self._take_expression(level + 1) for _ in range(count)]
        return (word, *parts)


class Lines:
    """Takes the lines of a text, one after the other."""

    def __init__(self, lines):
        self._lines = [level_and_words(line) for line in lines]
        self._at = 0

    def coming_level(self):
        """Return the level of the line that comes now, or None at the end."""
        if self._at == len(self._lines):
            return None
        return self._lines[self._at][0]

    def _take(self, level):
        """Take a line, which must have this level, and return its words."""
        expect(self.coming_level() == level, "a line has the level of its place")
        words = self._lines[self._at][1]
        self._at += 1
        return words

    def _take_word(self, level, word):
        """Take a line that consists of one known word."""
        expect(self._take(level) == [word], "the parts of a statement have their lines in order")

    def read_function(self):
        """Take the lines of a function, and return the function."""
        words = self._take(0)
        expect(words[0] == "func" and len(words) >= 3, "a function has a name and a result")
        expect(len(words) % 2 == 1, "each param has a name and a kind")
        params = [(words[at], words[at + 1]) for at in range(3, len(words), 2)]
        result = None if words[2] == "none" else words[2]
        body = self._read_body(1)
        self._take_word(0, "end")
        return (words[1], params, result, body)

    def _read_body(self, level):
        expect(level <= DEEPEST_BODY, "bodies are nested at most 8 deep")
        body = []
        while self.coming_level() == level:
            body.append(self._read_statement(level))
        return body

    def _read_statement(self, level):
        words = self._take(level)
        word = words[0]
        match word:
            case "if":
                return self._read_if(words, level)
            case "try":
                return self._read_try(words, level)
            case "scope" | "watch":
                (time,) = parts_of(words, ("int or none",))
                return ("scope", time, word == "watch", self._read_last_body(level))
            case "while" | "using" | "shield":
                head = parts_of(words, BLOCKS[word][:-1])
                return (word, *head, self._read_last_body(level))
            case "select":
                return self._read_select(words, level)
        expect(word in PLAIN, "a statement begins with one of the words")
        parts = parts_of(words, PLAIN[word])
        return (word, *parts)

    def _read_last_body(self, level):
        """Read a body and the end of its statement; level is that of the statement."""
        body = self._read_body(level + 1)
        self._take_word(level, "end")
        return body

    def _read_if(self, words, level):
        (condition,) = parts_of(words, ("bool",))
        body = self._read_body(level + 1)
        self._take_word(level, "else")
        return ("if", condition, body, self._read_last_body(level))

    def _read_try(self, words, level):
        expect(words == ["try"], "a try has no parts in its line")
        body = self._read_body(level + 1)
        follow = self._take(level)
        if follow == ["finally"]:
            return ("finally", body, self._read_last_body(level))
        expect(follow[0] == "catch", "a try has a catch or a finally")
        (name,) = parts_of(follow, ("name",))
        return ("try", body, name, self._read_last_body(level))

    def _read_select(self, words, level):
        expect(words == ["select"], "a select has no parts in its line")
        arms = []
        line = self._take(level)
        while line[0] in ARMS:
            head = parts_of(line, ARMS[line[0]])
            arms.append((line[0], *head, self._read_body(level + 1)))
            line = self._take(level)
        if line == ["default"]:
            return ("select", arms, self._read_last_body(level))
        expect(line == ["end"], "a select ends behind its arms")
        return ("select", arms, None)
