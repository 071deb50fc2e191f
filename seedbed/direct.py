"""The direct meaning of programs, statement by statement (points 15 to 18)."""

from seedbed.errors import IsDone, OutOfRange
from seedbed.form import variable_and_expressions
from seedbed.program import copied, function_named, value_of

NORMAL = ("normal",)


def turns_of(coroutine, replies):
    """Return the turns of a coroutine that was not yet resumed, as far as the replies go."""
    turns = [coroutine.resume()]
    for reply in replies:
        if turns[-1][0] == "done":
            return turns
        turns.append(coroutine.resume(reply))
    return turns


class Direct:
    """One call of a function of a program: a coroutine that makes turns.

    What is still to be done is kept as a list of entries. The last one goes on with the
    completion of what was done before it; it gives a completion for the entry below it, or
    a turn that asks. Statements that are being executed are entries, from the outermost one
    to the innermost one:
    - ("body", statements, at): the statements of a body from the index at on;
    - ("while", condition, body), ("try", name, handler), ("finally", cleanup), ("scope",),
      ("using", number): what these do after their (first) body;
    - ("cleanup", completion): after a cleanup or a shielded body; the completion is the one
      to go on with if that of the body is normal;
    - ("call", name, values): after the body of a called function; name is the variable for
      its value, and values are the variables of the caller.

    While a reply is awaited, the entry for it is kept apart:
    - ("store", name): a value is given to the variable, unless it is None;
    - ("enclose", entry, body): after a value, the body is executed, and then the entry goes on;
    - ("shield", entry, body): the same after any reply;
    - ("ignore", completion): after any reply, this is the completion;
    - ("leave", completion): the same after a value, but throw and cancelled become normal;
    - ("select", arms, default): a value tells which body is executed.
    """

    def __init__(self, program, name, args):
        _, params, _, body = function_named(program, name)
        if len(args) != len(params):
            raise OutOfRange("the number of args is not that of the params")
        self._functions = {function[0]: function for function in copied(program)}
        self._values = arguments(params, args)
        self._entries = [("body", body, 0)]
        self._awaiting = None
        self._started = False
        self._done = False

    def resume(self, reply=None):
        """Return the next turn; each call but the first one has the reply to the last ask."""
        if self._done:
            raise IsDone("the coroutine is done")
        if (reply is None) == self._started:
            raise OutOfRange("there is a reply exactly if there was an ask")
        self._started = True
        given = NORMAL if reply is None else self._take_reply(self._awaiting, reply)
        while self._entries:
            given = self._go_on(self._entries.pop(), given)
            if given[0] == "ask":
                return given
        self._done = True
        return ("done", ("return", None) if given == NORMAL else given)

    def _value(self, expression):
        return value_of(expression, self._values)

    def _all_values(self, expressions):
        return [self._value(expression) for expression in expressions]

    def _store(self, name, value):
        if name is not None:
            self._values[name] = 0 if value is None else value

    def _ask(self, ask, entry):
        """Return the turn with an ask; the entry goes on with the reply to it."""
        self._awaiting = entry
        return ("ask", ask)

    def _execute(self, body, entry=None):
        """Begin a body; the given entry, if there is one, goes on after it."""
        if entry is not None:
            self._entries.append(entry)
        self._entries.append(("body", body, 0))
        return NORMAL

    def _take_reply(self, entry, reply):
        """Let the entry that awaits a reply go on with it; return a completion."""
        match entry:
            case ("shield", outer, body):
                return self._execute(body, outer)
            case ("ignore", completion):
                return completion
        if reply[0] != "value":
            return reply
        value = reply[1]
        match entry:
            case ("store", name):
                self._store(name, value)
            case ("enclose", outer, body):
                return self._execute(body, outer)
            case ("leave", completion):
                return NORMAL if completion[0] in ("throw", "cancelled") else completion
            case ("select", arms, default):
                return self._choose(arms, default, value)
        return NORMAL

    def _choose(self, arms, default, value):
        index, number = value
        if index == len(arms):
            return self._execute(default)
        arm = arms[index]
        if arm[0] == "receive":
            self._store(arm[1], number)
        return self._execute(arm[-1])

    def _go_on(self, entry, given):
        """Let an entry go on with a completion; return a turn that asks, or a completion."""
        match entry:
            case ("body", statements, at):
                if given != NORMAL or at == len(statements):
                    return given
                self._entries.append(("body", statements, at + 1))
                return self._begin(statements[at])
            case ("while", condition, body):
                if given != NORMAL or not self._value(condition):
                    return given
                return self._ask(("yield",), ("enclose", entry, body))
            case ("try", name, handler):
                if given[0] != "throw":
                    return given
                self._store(name, given[1])
                return self._execute(handler)
            case ("finally", cleanup):
                return self._ask(("shield",), ("shield", ("cleanup", given), cleanup))
            case ("cleanup", before):
                return self._ask(("unveil",), ("ignore", before if given == NORMAL else given))
            case ("using", number):
                return self._ask(("release", number), ("ignore", given))
            case ("scope",):
                return self._ask(("leave", given), ("leave", given))
        return self._return_from(entry, given)

    def _return_from(self, entry, given):
        """Go on behind a call with the completion of the body of the called function."""
        _, name, values = entry
        self._values = values
        if given[0] in ("throw", "cancelled"):
            return given
        self._store(name, None if given == NORMAL else given[1])
        return NORMAL

    def _begin(self, statement):
        """Begin a statement; return a turn that asks, or a completion."""
        match statement:
            case ("if", condition, first, second):
                return self._execute(first if self._value(condition) else second)
            case ("while", _, _):
                return self._go_on(statement, NORMAL)
            case ("try", body, name, handler):
                return self._execute(body, ("try", name, handler))
            case ("finally", body, cleanup):
                return self._execute(body, ("finally", cleanup))
            case ("scope", time, watched, body):
                most = None if time is None else self._value(time)
                return self._ask(("enter", most, watched), ("enclose", ("scope",), body))
            case ("shield", body):
                return self._ask(("shield",), ("shield", ("cleanup", NORMAL), body))
            case ("using", expression, body):
                number = self._value(expression)
                return self._ask(("acquire", number), ("enclose", ("using", number), body))
            case ("select", arms, default):
                asked = [self._arm_asked(arm) for arm in arms]
                return self._ask(("select", asked, default is not None), ("select", arms, default))
        return self._begin_plain(statement)

    def _arm_asked(self, arm):
        if arm[0] == "receive":
            return ("receive", self._value(arm[2]))
        return (arm[0], *self._all_values(arm[1:-1]))

    def _begin_plain(self, statement):
        """Begin a statement without bodies."""
        match statement:
            case ("let" | "set", name, value):
                self._values[name] = self._value(value)
                return NORMAL
            case ("return", None):
                return statement
            case ("return" | "throw", value):
                return (statement[0], self._value(value))
            case ("spawn", name, called, passed):
                return self._ask(("spawn", called, self._all_values(passed)), ("store", name))
            case ("call", name, called, passed):
                _, params, _, body = self._functions[called]
                outer = self._values
                self._values = arguments(params, self._all_values(passed))
                return self._execute(body, ("call", name, outer))
        variable, expressions = variable_and_expressions(statement)
        return self._ask((statement[0], *self._all_values(expressions)), ("store", variable))


def arguments(params, values):
    """Return the variables at the beginning of a function, a dict from names to values."""
    return {param[0]: value for param, value in zip(params, values)}
