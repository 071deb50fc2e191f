"""The form of programs (points 5 to 7): which parts stand where, and how many there may be.

The form can be told without knowing which variables are visible; for these see seedbed/rules.py.
"""

from seedbed.errors import BadProgram
from seedbed.program import is_name, is_number

MOST_FUNCTIONS = 8
MOST_PARAMS = 4
MOST_ARMS = 4
MOST_STATEMENTS = 160
MOST_EXPRESSIONS = 1000
DEEPEST_EXPRESSION = 8
DEEPEST_BODY = 8

KINDS = ("int", "bool", "channel", "task")

# For each sign: the number of its parts, the kind that they have, and the kind of the result.
SIGNS = {
    "not": (1, "bool", "bool"),
    "+": (2, "int", "int"),
    "-": (2, "int", "int"),
    "*": (2, "int", "int"),
    "<": (2, "int", "bool"),
    "<=": (2, "int", "bool"),
    "=": (2, "int", "bool"),
    "and": (2, "bool", "bool"),
    "or": (2, "bool", "bool"),
}

# The parts of each statement without bodies. A kind, or any, stands for an expression.
PLAIN = {
    "let": ("name", "any"),
    "set": ("name", "any"),
    "emit": ("int",),
    "return": ("int or none",),
    "throw": ("int",),
    "spawn": ("name", "name", "args"),
    "await": ("name or none", "task"),
    "cancel": ("task",),
    "open": ("name", "int"),
    "send": ("channel", "int"),
    "receive": ("name", "channel"),
    "close": ("channel",),
    "sleep": ("int",),
    "yield": (),
    "now": ("name",),
    "call": ("name or none", "name", "args"),
}

BLOCKS = {
    "if": ("bool", "body", "body"),
    "while": ("bool", "body"),
    "try": ("body", "name", "body"),
    "finally": ("body", "body"),
    "scope": ("int or none", "truth", "body"),
    "shield": ("body",),
    "using": ("int", "body"),
    "select": ("arms", "body or none"),
}

# The parts of each arm, except for the body at its end.
ARMS = {
    "send": ("channel", "int"),
    "receive": ("name", "channel"),
    "after": ("int",),
}

# The statements that make one ask, and give its value to a new variable of this kind.
MAKING = {
    "await": "int",
    "open": "channel",
    "receive": "int",
    "now": "int",
}


def need(holds, why):
    """Refuse a program if something does not hold for it."""
    if not holds:
        raise BadProgram(why)


def check_form(program):
    """Check the form of a value of any kind that should be a program."""
    need(isinstance(program, list), "a program is a list")
    need(1 <= len(program) <= MOST_FUNCTIONS, "a program has 1 to 8 functions")
    form = Form()
    for function in program:
        form.check_function(function)
    names = [function[0] for function in program]
    need(len(set(names)) == len(names), "the names of the functions differ")
    need("main" in names, "one function is named main")
    main = program[names.index("main")]
    need(main[1] == [] and main[2] is None, "main has no params and no result")


def variable_and_expressions(statement):
    """Return the variable, or None, and the expressions of a statement that only makes one ask."""
    if statement[0] in MAKING:
        return statement[1], statement[2:]
    return None, statement[1:]


def has_word(value):
    """Tell whether a value of any kind is a tuple that begins with a string."""
    return isinstance(value, tuple) and len(value) > 0 and isinstance(value[0], str)


class Form:
    """Checks the functions of one program, and counts its statements, arms and expressions meanwhile.

    Counting while going along, and not afterwards, bounds the time that is spent on a value that
    is much too large, and so do the bounds on the depth.
    """

    def __init__(self):
        self._statements = 0
        self._expressions = 0

    def check_function(self, function):
        """Check the form of a function."""
        need(isinstance(function, tuple) and len(function) == 4, "a function is a tuple of 4 parts")
        name, params, result, body = function
        need(is_name(name), "the name of a function is a name")
        need(isinstance(params, list) and len(params) <= MOST_PARAMS, "the params are a list of at most 4")
        for param in params:
            need(isinstance(param, tuple) and len(param) == 2, "a param is a tuple of 2 parts")
            need(is_name(param[0]) and param[1] in KINDS, "a param has a name and a kind")
        need(result is None or result == "int", "a result is int or None")
        self._check_body(body, 1)

    def _check_body(self, body, depth):
        need(isinstance(body, list), "a body is a list")
        need(depth <= DEEPEST_BODY, "bodies are nested at most 8 deep")
        for statement in body:
            self._check_statement(statement, depth)

    def _count_statement(self):
        self._statements += 1
        need(self._statements <= MOST_STATEMENTS, "a program has at most 160 statements and arms")

    def _check_statement(self, statement, depth):
        self._count_statement()
        need(has_word(statement), "a statement is a tuple that begins with a word")
        word = statement[0]
        need(word in PLAIN or word in BLOCKS, "a statement begins with one of the words")
        roles = PLAIN[word] if word in PLAIN else BLOCKS[word]
        self._check_parts(roles, statement[1:], depth)

    def _check_parts(self, roles, parts, depth):
        need(len(roles) == len(parts), "a statement and an arm have the right number of parts")
        for role, part in zip(roles, parts):
            self._check_part(role, part, depth)

    def _check_part(self, role, part, depth):
        if part is None and role in ("name or none", "int or none", "body or none"):
            return
        match role:
            case "name" | "name or none":
                need(is_name(part), "a name is expected")
            case "truth":
                need(isinstance(part, bool), "True or False is expected")
            case "body" | "body or none":
                self._check_body(part, depth + 1)
            case "args":
                need(isinstance(part, list), "args are a list")
                for expression in part:
                    self._check_expression(expression, 1)
            case "arms":
                self._check_arms(part, depth)
            case _:
                self._check_expression(part, 1)

    def _check_arms(self, arms, depth):
        need(isinstance(arms, list) and 1 <= len(arms) <= MOST_ARMS, "arms are a list of 1 to 4")
        for arm in arms:
            self._count_statement()
            need(has_word(arm) and arm[0] in ARMS, "an arm is a tuple that begins with one of the words")
            self._check_parts(ARMS[arm[0]], arm[1:-1], depth)
            self._check_body(arm[-1], depth + 1)

    def _check_expression(self, expression, level):
        self._expressions += 1
        need(self._expressions <= MOST_EXPRESSIONS, "a program has at most 1000 expressions")
        if not isinstance(expression, tuple):
            constant = isinstance(expression, bool) or is_number(expression)
            need(constant or is_name(expression), "a number, True, False or a name is expected")
            return
        need(level < DEEPEST_EXPRESSION, "the depth of an expression is at most 8")
        need(has_word(expression) and expression[0] in SIGNS, "an expression begins with one of the signs")
        count, _, _ = SIGNS[expression[0]]
        need(len(expression) == count + 1, "a sign has the right number of parts")
        for part in expression[1:]:
            self._check_expression(part, level + 1)
