"""Which instructions of a function of a code are reached, and with what (point 21).

A state is a pair: the height of the stack and the number of pending completions.
"""

from seedbed.covering import Covering
from seedbed.errors import BadCode

HIGHEST = 40
MOST_PENDING = 20

# How many values an instruction pops and pushes, if this depends on its word alone.
POPS = {"store": 1, "branch": 1}
PUSHES = {"push": 1, "load": 1, "apply": 1, "select": 1}

# Replies to these asks always count as values, so no completion occurs at them.
UNFAILING = ("shield", "unveil", "release")


def reached_in(instructions, guards):
    """Check that the instructions and guards of a function, which have the right form, can be executed.

    Return a dict from the indexes of the instructions that are reached to their states.
    """
    walk = Walk(instructions, guards)
    walk.check()
    return walk.states


def need(holds, why):
    """Refuse a code if something does not hold for it."""
    if not holds:
        raise BadCode(why)


def pops_of(instruction):
    """Return how many values an instruction pops."""
    match instruction:
        case ("apply", sign):
            return 1 if sign == "not" else 2
        case ("ask" | "spawn" | "call", _, count, _):
            return count
        case ("select", shape, _):
            return sum([2 if item[0] == "send" else 1 for item in shape])
        case ("enter", timed, _):
            return 1 if timed else 0
        case ("complete", word):
            return 0 if word == "end" else 1
    return POPS.get(instruction[0], 0)


def targets_of(at, instruction):
    """Return the indexes that are reached from an instruction, if no completion occurs."""
    match instruction:
        case ("jump", target):
            return [target]
        case ("branch", target):
            return [at + 1, target]
        case ("complete", _):
            return []
    return [at + 1]


class Walk:
    """Goes through the instructions of a function that are reached, beginning with the first one."""

    def __init__(self, instructions, guards):
        self._instructions = instructions
        self._guards = guards
        self._covering = Covering(guards, len(instructions))
        self._entered = {}
        self.states = {}
        self._open_ends = []

    def check(self):
        """Go through all instructions that are reached."""
        self._reach_by_step(0, (0, 0))
        while self._open_ends:
            self._go_on_from(self._open_ends.pop())

    def _reach_by_step(self, at, state):
        """Reach an instruction, or the end, in another way than by a guard."""
        height, pending = state
        need(height <= HIGHEST, "the stack has a height of at most 40")
        need(pending <= MOST_PENDING, "there are at most 20 pending completions")
        if at < len(self._instructions):
            need(self._instructions[at][0] != "catch", "a catch is reached only as the target of a guard")
            self._reach(at, state)

    def _reach(self, at, state):
        if at not in self.states:
            self.states[at] = state
            self._open_ends.append(at)
        need(self.states[at] == state, "no instruction is reached with two different pairs of numbers")

    def _go_on_from(self, at):
        instruction = self._instructions[at]
        word = instruction[0]
        height, pending = self.states[at]
        height -= pops_of(instruction)
        pending -= 1 if word in ("resume", "leave", "catch") else 0
        need(height >= 0, "an instruction pops no more values than there are")
        need(pending >= 0, "an instruction removes no more completions than there are")
        self._reach_by_guards(at, pending)
        height += PUSHES.get(word, 0)
        pending += 1 if word == "settle" else 0
        for target in targets_of(at, instruction):
            self._reach_by_step(target, (height, pending))

    def _reach_by_guards(self, at, pending):
        """Reach what the guards reach that can take a completion that occurs at an instruction.

        Its stretch is gone through again only if there are fewer pending completions than before.
        """
        stretch = self._covering.stretches[at]
        if stretch in self._entered and self._entered[stretch] <= pending:
            return
        self._entered[stretch] = pending
        for index in self._covering.looked_at[stretch]:
            _, _, target, _, depth = self._guards[index]
            need(depth <= pending, "a guard keeps no more completions than there are")
            self._reach(target, (0, depth + 1))
