"""Compiling programs to codes (point 22)."""

from seedbed.checks import check_program
from seedbed.form import variable_and_expressions


def compile_program(program):
    """Return a valid code that makes the same turns as the program."""
    check_program(program)
    return [compiled(function) for function in program]


def compiled(function):
    """Return the function of the code for a function of a program."""
    name, params, _, body = function
    writer = Writer()
    writer.write_function(params, body)
    return (name, len(params), writer.slots, writer.instructions, writer.guards)


class Writer:
    """Writes the instructions and guards of one function.

    The stack is empty between statements. places is a dict from the names of the variables that
    are visible to their slots; each variable has a slot of its own. depth is the number of
    completions that are pending between the statements of a body: a guard around it keeps them.
    Guards are added at the end of what they cover, so an inner one stands before those around it.
    """

    def __init__(self):
        self.instructions = []
        self.guards = []
        self.slots = 0

    def write_function(self, params, body):
        """Write the instructions of a function."""
        places = {param[0]: self._new_slot() for param in params}
        self._write_body(body, places, 0)

    def _new_slot(self):
        self.slots += 1
        return self.slots - 1

    def _make(self, name, places):
        """Return the slot of a new variable, or None if there is no name."""
        if name is None:
            return None
        places[name] = self._new_slot()
        return places[name]

    def _write(self, *instruction):
        self.instructions.append(instruction)

    def _here(self):
        return len(self.instructions)

    def _write_open(self, word):
        """Write a jump or a branch whose target is not known yet; return its index."""
        self._write(word, None)
        return self._here() - 1

    def _land(self, at):
        """Let a jump or a branch lead to what is written now."""
        word = self.instructions[at][0]
        self.instructions[at] = (word, self._here())

    def _guard(self, first, last, word, depth):
        """Add a guard that leads to what is written now, if there is an instruction to cover."""
        if first < last:
            self.guards.append((first, last, self._here(), word, depth))

    def _write_value(self, expression, places):
        if isinstance(expression, str):
            self._write("load", places[expression])
        elif isinstance(expression, tuple):
            self._write_values(expression[1:], places)
            self._write("apply", expression[0])
        else:
            self._write("push", expression)

    def _write_values(self, expressions, places):
        for expression in expressions:
            self._write_value(expression, places)

    def _write_body(self, body, places, depth):
        inner = dict(places)
        for statement in body:
            self._write_statement(statement, inner, depth)

    def _write_settled(self, body, places, depth):
        """Write a body, and add its completion to the pending ones, however it ends.

        What is written next is the target of the guard, too.
        """
        first = self._here()
        self._write_body(body, places, depth)
        last = self._here()
        self._write("settle")
        self._guard(first, last, "clean", depth)

    def _write_statement(self, statement, places, depth):
        match statement:
            case ("if", condition, first, second):
                self._write_if(condition, first, second, places, depth)
            case ("while", condition, body):
                self._write_while(condition, body, places, depth)
            case ("try", body, name, handler):
                self._write_try(body, name, handler, places, depth)
            case ("finally", body, cleanup):
                self._write_finally(body, cleanup, places, depth)
            case ("scope", time, watched, body):
                if time is not None:
                    self._write_value(time, places)
                self._write("enter", time is not None, watched)
                self._write_settled(body, places, depth)
                self._write("leave")
            case ("shield", body):
                self._write("ask", "shield", 0, None)
                self._write_settled(body, places, depth)
                self._write("ask", "unveil", 0, None)
                self._write("resume")
            case ("using", number, body):
                self._write_using(number, body, places, depth)
            case ("select", arms, default):
                self._write_select(arms, default, places, depth)
            case _:
                self._write_plain(statement, places)

    def _write_if(self, condition, first, second, places, depth):
        self._write_value(condition, places)
        otherwise = self._write_open("branch")
        self._write_body(first, places, depth)
        end = self._write_open("jump")
        self._land(otherwise)
        self._write_body(second, places, depth)
        self._land(end)

    def _write_while(self, condition, body, places, depth):
        start = self._here()
        self._write_value(condition, places)
        end = self._write_open("branch")
        self._write("ask", "yield", 0, None)
        self._write_body(body, places, depth)
        self._write("jump", start)
        self._land(end)

    def _write_try(self, body, name, handler, places, depth):
        first = self._here()
        self._write_body(body, places, depth)
        last = self._here()
        end = self._write_open("jump")
        self._guard(first, last, "catch", depth)
        inner = dict(places)
        self._write("catch", self._make(name, inner))
        self._write_body(handler, inner, depth)
        self._land(end)

    def _write_finally(self, body, cleanup, places, depth):
        self._write_settled(body, places, depth)
        self._write("ask", "shield", 0, None)
        first = self._here()
        self._write_body(cleanup, places, depth + 1)
        # The guard keeps depth completions only: that of the cleanup replaces that of the body.
        self._guard(first, self._here(), "clean", depth)
        self._write("ask", "unveil", 0, None)
        self._write("resume")

    def _write_using(self, number, body, places, depth):
        slot = self._new_slot()
        self._write_value(number, places)
        self._write("store", slot)
        self._write("load", slot)
        self._write("ask", "acquire", 1, None)
        self._write_settled(body, places, depth)
        self._write("load", slot)
        self._write("ask", "release", 1, None)
        self._write("resume")

    def _write_select(self, arms, default, places, depth):
        shape = []
        branches = []
        for arm in arms:
            inner = dict(places)
            if arm[0] == "receive":
                self._write_value(arm[2], places)
                slot = self._make(arm[1], inner)
            else:
                self._write_values(arm[1:-1], places)
                slot = None
            shape.append((arm[0], slot))
            branches.append((arm[-1], inner))
        if default is not None:
            branches.append((default, places))
        self._write("select", shape, default is not None)
        self._write_branches(branches, depth)

    def _write_branches(self, branches, depth):
        """Write bodies, of which the one whose index is on the stack is executed."""
        chosen = self._new_slot()
        self._write("store", chosen)
        ends = []
        for index, (body, places) in enumerate(branches[:-1]):
            self._write("load", chosen)
            self._write("push", index)
            self._write("apply", "=")
            otherwise = self._write_open("branch")
            self._write_body(body, places, depth)
            ends.append(self._write_open("jump"))
            self._land(otherwise)
        body, places = branches[-1]
        self._write_body(body, places, depth)
        for end in ends:
            self._land(end)

    def _write_plain(self, statement, places):
        """Write a statement without bodies."""
        match statement:
            case ("let", name, value):
                self._write_value(value, places)
                self._write("store", self._make(name, places))
            case ("set", name, value):
                self._write_value(value, places)
                self._write("store", places[name])
            case ("return", None):
                self._write("complete", "end")
            case ("return" | "throw", value):
                self._write_value(value, places)
                self._write("complete", statement[0])
            case ("spawn" | "call", name, called, passed):
                self._write_values(passed, places)
                self._write(statement[0], called, len(passed), self._make(name, places))
            case _:
                variable, expressions = variable_and_expressions(statement)
                self._write_values(expressions, places)
                self._write("ask", statement[0], len(expressions), self._make(variable, places))
