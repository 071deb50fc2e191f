"""The rules for variables, kinds, returns, calls and spawns (points 8 to 11).

All functions here take parts of programs of the right form (seedbed/form.py).
"""

from seedbed.form import KINDS, MAKING, PLAIN, SIGNS, need


def variables_of(program, index):
    """Check the rules for a function; return its params and its variables with their kinds, as they are written."""
    rules = Rules(program, index)
    rules.check_function()
    return rules.variables


def kind_of(expression, visible):
    """Return the kind of an expression; visible is a dict from the names of variables to their kinds."""
    if isinstance(expression, bool):
        return "bool"
    if isinstance(expression, str):
        need(expression in visible, "each use of a name refers to a visible variable")
        return visible[expression]
    if not isinstance(expression, tuple):
        return "int"
    _, taken, given = SIGNS[expression[0]]
    for part in expression[1:]:
        check_kind(part, taken, visible)
    return given


def check_kind(expression, kind, visible):
    """Check that an expression has a kind."""
    need(kind_of(expression, visible) == kind, "an expression has the kind that its place takes")


def always_returns(body):
    """Tell whether a body does not end without a return."""
    if not body:
        return False
    match body[-1]:
        case ("return" | "throw", _):
            return True
        case ("if", _, first, second):
            return always_returns(first) and always_returns(second)
        case ("try", first, _, second):
            return always_returns(first) and always_returns(second)
        case ("finally", first, _):
            return always_returns(first)
        case ("scope", _, _, inner):
            return always_returns(inner)
        case ("shield", inner):
            return always_returns(inner)
        case ("using", _, inner):
            return always_returns(inner)
    return False


class Rules:
    """Goes through the statements of one function in the order in which they are written.

    It hands on a dict with the variables that are visible, and whether there is a scope around:
    visible is the dict of the body that is gone through, so a new variable is added to it.
    """

    def __init__(self, program, index):
        self.variables = []
        self._function = program[index]
        self._functions = {function[0]: function for function in program}
        self._earlier = [function[0] for function in program[:index]]

    def check_function(self):
        """Check the rules for the function."""
        _, params, result, body = self._function
        visible = {}
        for name, kind in params:
            self._make(name, kind, visible)
        self._check_body(body, visible, False)
        need(result is None or always_returns(body), "a function with a result does not end without a return")

    def _make(self, name, kind, visible):
        need(name not in visible, "a new variable does not have the name of a visible one")
        visible[name] = kind
        self.variables.append((name, kind))

    def _check_body(self, body, visible, scoped):
        inner = dict(visible)
        for statement in body:
            self._check_statement(statement, inner, scoped)

    def _check_body_with(self, name, body, visible, scoped):
        """Check a body that begins with a new variable, an int."""
        inner = dict(visible)
        self._make(name, "int", inner)
        self._check_body(body, inner, scoped)

    def _check_statement(self, statement, visible, scoped):
        match statement:
            case ("if", condition, first, second):
                check_kind(condition, "bool", visible)
                self._check_body(first, visible, scoped)
                self._check_body(second, visible, scoped)
            case ("while", condition, body):
                check_kind(condition, "bool", visible)
                self._check_body(body, visible, scoped)
            case ("try", body, name, handler):
                self._check_body(body, visible, scoped)
                self._check_body_with(name, handler, visible, scoped)
            case ("finally", body, cleanup):
                self._check_body(body, visible, scoped)
                self._check_body(cleanup, visible, scoped)
            case ("scope", time, _, body):
                if time is not None:
                    check_kind(time, "int", visible)
                self._check_body(body, visible, True)
            case ("shield", body):
                self._check_body(body, visible, scoped)
            case ("using", number, body):
                check_kind(number, "int", visible)
                self._check_body(body, visible, scoped)
            case ("select", arms, default):
                self._check_select(arms, default, visible, scoped)
            case ("spawn", name, called, passed):
                need(scoped, "a spawn stands within a scope")
                self._check_args(called, passed, visible)
                self._make(name, "task", visible)
            case _:
                self._check_plain(statement, visible)

    def _check_select(self, arms, default, visible, scoped):
        for arm in arms:
            match arm:
                case ("send", channel, number, body):
                    check_kind(channel, "channel", visible)
                    check_kind(number, "int", visible)
                    self._check_body(body, visible, scoped)
                case ("receive", name, channel, body):
                    check_kind(channel, "channel", visible)
                    self._check_body_with(name, body, visible, scoped)
                case ("after", time, body):
                    check_kind(time, "int", visible)
                    self._check_body(body, visible, scoped)
        if default is not None:
            self._check_body(default, visible, scoped)

    def _check_plain(self, statement, visible):
        match statement:
            case ("let", name, value):
                self._make(name, kind_of(value, visible), visible)
            case ("set", name, value):
                check_kind(value, kind_of(name, visible), visible)
            case ("return", value):
                self._check_return(value, visible)
            case ("call", name, called, passed):
                self._check_call(name, called, passed, visible)
            case _:
                self._check_ask(statement, visible)

    def _check_return(self, value, visible):
        result = self._function[2]
        need((value is None) == (result is None), "a return has a value exactly if the function has a result")
        if value is not None:
            check_kind(value, "int", visible)

    def _check_call(self, name, called, passed, visible):
        need(called in self._earlier, "a function calls only functions that stand before it")
        self._check_args(called, passed, visible)
        if name is not None:
            need(self._functions[called][2] == "int", "a call without a result gives nothing to a variable")
            self._make(name, "int", visible)

    def _check_args(self, called, passed, visible):
        need(called in self._functions, "a function that is spawned exists")
        params = self._functions[called][1]
        need(len(passed) == len(params), "there are as many args as params")
        for param, value in zip(params, passed):
            check_kind(value, param[1], visible)

    def _check_ask(self, statement, visible):
        """Check a throw, or a statement that only makes one ask."""
        word = statement[0]
        for role, part in zip(PLAIN[word], statement[1:]):
            if role in KINDS:
                check_kind(part, role, visible)
        if word in MAKING and statement[1] is not None:
            self._make(statement[1], MAKING[word], visible)
