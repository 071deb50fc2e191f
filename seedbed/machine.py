"""Executing codes: coroutines that make turns (points 19, 20 and 25)."""

from seedbed.errors import IsDone, OutOfRange
from seedbed.program import applied, copied
from seedbed.reach import UNFAILING, pops_of

NORMAL = ("normal",)


class Machine:
    """One call of a function of a valid code: a coroutine that makes turns.

    The frames are kept from the first call to the innermost one. While a reply is awaited, the
    last frame stands at the instruction that asked, and the others at their calls.
    """

    def __init__(self, code, name, args):
        functions = {function[0]: kept(function) for function in code}
        if name not in functions:
            raise OutOfRange("the code has no function of this name")
        if len(args) != functions[name][1]:
            raise OutOfRange("the number of args is not that of the params")
        self._functions = functions
        self._frames = [Frame(functions[name], args)]
        self._started = False
        self._left = NORMAL
        self._outcome = NORMAL

    def resume(self, reply=None):
        """Return the next turn; each call but the first one has the reply to the last ask."""
        if not self._frames:
            raise IsDone("the coroutine is done")
        if (reply is None) == self._started:
            raise OutOfRange("there is a reply exactly if there was an ask")
        self._started = True
        if reply is not None:
            self._take_reply(reply)
        while self._frames:
            ask = self._execute(self._frames[-1])
            if ask is not None:
                return ("ask", ask)
        return ("done", self._outcome)

    def _execute(self, frame):
        """Execute one instruction; return the ask that it makes, or None."""
        if frame.at == len(frame.instructions):
            self._occur(("return", None))
            return None
        instruction = frame.instructions[frame.at]
        match instruction:
            case ("ask", word, count, _):
                return (word, *frame.take(count))
            case ("spawn", name, count, _):
                return ("spawn", name, frame.take(count))
            case ("select", shape, default):
                return ("select", arms_of(shape, frame.take(pops_of(instruction))), default)
            case ("enter", timed, watched):
                return ("enter", frame.take(1)[0] if timed else None, watched)
            case ("leave",):
                self._left = frame.pending.pop()
                return ("leave", self._left)
            case ("call", name, count, _):
                self._frames.append(Frame(self._functions[name], frame.take(count)))
            case ("resume",):
                self._occur(frame.pending.pop())
            case ("complete", "end"):
                self._occur(("return", None))
            case ("complete", word):
                self._occur((word, frame.stack.pop()))
            case _:
                frame.step(instruction)
        return None

    def _take_reply(self, reply):
        """Go on with the reply at the instruction that asked."""
        frame = self._frames[-1]
        instruction = frame.instructions[frame.at]
        if reply[0] != "value":
            failed = instruction[0] != "ask" or instruction[1] not in UNFAILING
            self._occur(reply if failed else NORMAL)
            return
        match instruction:
            case ("leave",):
                self._occur(NORMAL if self._left[0] in ("throw", "cancelled") else self._left)
            case ("enter", _, _):
                frame.at += 1
            case ("select", shape, _):
                frame.choose(shape, reply[1])
            case _:
                frame.give(reply[1])

    def _occur(self, completion):
        """Let a completion occur at the instruction of the last frame; go on behind it if it is normal."""
        frame = self._frames[-1]
        if completion == NORMAL:
            frame.at += 1
            return
        while not frame.is_guarded(completion):
            self._frames.pop()
            if not self._frames:
                self._outcome = completion
                return
            frame = self._frames[-1]
            if completion[0] == "return":
                frame.give(completion[1])
                return


class Frame:
    """A call of a function of a code: where it stands, and its values."""

    def __init__(self, function, args):
        _, _, slots, instructions, guards = function
        self.instructions = instructions
        self.at = 0
        self.stack = []
        self.pending = []
        self._slots = list(args) + [0] * (slots - len(args))
        self._guards = guards

    def take(self, count):
        """Pop so many values; return them in the order in which they were pushed."""
        first = len(self.stack) - count
        taken = self.stack[first:]
        del self.stack[first:]
        return taken

    def give(self, value):
        """Store the value that an ask, a spawn or a call gives, and go on behind it."""
        self._store(self.instructions[self.at][3], value)
        self.at += 1

    def choose(self, shape, value):
        """Store and push what the value of a select gives, and go on behind it."""
        index, number = value
        if 0 <= index < len(shape):
            self._store(shape[index][1], number)
        self.stack.append(index)
        self.at += 1

    def is_guarded(self, completion):
        """Tell whether a guard takes a completion that occurs here; if so, go on at its target."""
        for first, last, target, word, depth in self._guards:
            if first <= self.at < last and (word == "clean" or completion[0] == "throw"):
                self.stack.clear()
                del self.pending[depth:]
                self.pending.append(completion)
                self.at = target
                return True
        return False

    def step(self, instruction):
        """Execute an instruction that neither asks, calls nor completes."""
        self.at += 1
        match instruction:
            case ("push", value):
                self.stack.append(value)
            case ("load", slot):
                self.stack.append(self._slots[slot])
            case ("store", slot):
                self._store(slot, self.stack.pop())
            case ("apply", sign):
                parts = self.take(pops_of(instruction))
                self.stack.append(applied(sign, parts))
            case ("jump", target):
                self.at = target
            case ("branch", target):
                if not self.stack.pop():
                    self.at = target
            case ("settle",):
                self.pending.append(NORMAL)
            case ("catch", slot):
                self._store(slot, self.pending.pop()[1])

    def _store(self, slot, value):
        if slot is not None:
            self._slots[slot] = 0 if value is None else value


def kept(function):
    """Return a function of a code with lists of its own.

    Among the instructions, only a select holds a list; copying all of them would make each start of a task slow.
    """
    name, count, slots, instructions, guards = function
    own = [copied(instruction) if instruction[0] == "select" else instruction for instruction in instructions]
    return (name, count, slots, own, list(guards))


def arms_of(shape, values):
    """Return the arms of the ask of a select; values are those of its arms, in order."""
    arms = []
    at = 0
    for word, _ in shape:
        end = at + (2 if word == "send" else 1)
        arms.append((word, *values[at:end]))
        at = end
    return arms
