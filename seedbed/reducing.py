"""Leaving out instructions that come to nothing, and computing what is known before (point 23)."""

from seedbed.program import applied
from seedbed.reach import pops_of

PURE = ("push", "load", "apply")


def reduced(instructions, guards):
    """Return the instructions, some of them changed, and a list that tells which of them are to be kept.

    The targets of guards are always kept, since a guard must have an instruction as its target.
    """
    reducer = Reducer(instructions, guards)
    reducer.reduce()
    return reducer.instructions, reducer.keep


class Reducer:
    """Goes through the instructions, and leaves out runs at the end of what it kept so far.

    A run can be changed as a whole if nothing leads into it but to its first instruction.
    """

    def __init__(self, instructions, guards):
        self.instructions = list(instructions)
        self.keep = [True] * len(instructions)
        self._guards = guards
        self._kept = []
        self._targets = {guard[2]: True for guard in guards}
        self._loads = {}
        entries = dict(self._targets)
        for instruction in instructions:
            if instruction[0] in ("jump", "branch"):
                entries[instruction[1]] = True
            if instruction[0] == "load":
                self._loads[instruction[1]] = self._loads.get(instruction[1], 0) + 1
        # The number of the entries up to each index, to compare them at the ends of a run.
        self._entries = []
        for at in range(len(instructions)):
            before = self._entries[-1] if at > 0 else 0
            self._entries.append(before + (1 if at in entries else 0))

    def reduce(self):
        """Go through all instructions."""
        for at in range(len(self.keep)):
            self._kept.append(at)
            self._reduce_last()
        while self._kept and self._is_needless_end(self._kept[-1]):
            self._leave_out(1)

    def _last(self, back):
        """Return the last instruction that is kept (back is 1), or one before it, or one without a word."""
        return self.instructions[self._kept[-back]] if back <= len(self._kept) else ("",)

    def _is_run(self, count):
        """Tell whether the last instructions that are kept, so many, are a run."""
        return self._entries[self._kept[-count]] == self._entries[self._kept[-1]]

    def _leave_out(self, count):
        """Leave out the last instructions that are kept, if they are a run."""
        if self._is_run(count) and self._kept[-count] not in self._targets:
            for _ in range(count):
                self.keep[self._kept.pop()] = False

    def _replace(self, count, instruction):
        """Replace the last instructions that are kept, if they are a run, by another one."""
        if self._is_run(count):
            for _ in range(count - 1):
                self.keep[self._kept.pop()] = False
            self.instructions[self._kept[-1]] = instruction

    def _reduce_last(self):
        """Leave out or replace a run that ends with the last instruction that is kept."""
        last = self._kept[-1]
        match self.instructions[last]:
            case ("jump", target) if target == last + 1:
                self._leave_out(1)
            case ("apply", sign):
                self._reduce_apply(sign)
            case ("branch", target):
                self._reduce_branch(target, last)
            case ("store", slot):
                if slot not in self._loads:
                    self._leave_out_with_value()
                elif self._last(2) == ("load", slot):
                    self._leave_out(2)
            case ("load", slot):
                if self._loads[slot] == 1 and self._last(2) == ("store", slot):
                    self._leave_out(2)

    def _reduce_apply(self, sign):
        """Apply a sign to values that are pushed just before."""
        count = pops_of(("apply", sign))
        operands = [self._last(back) for back in range(count + 1, 1, -1)]
        if all(operand[0] == "push" for operand in operands):
            parts = [operand[1] for operand in operands]
            self._replace(count + 1, ("push", applied(sign, parts)))

    def _reduce_branch(self, target, last):
        """Leave out a branch that leads to one place only, or make a jump of it."""
        if target == last + 1:
            self._leave_out_with_value()
            return
        match self._last(2):
            case ("push", True):
                self._leave_out(2)
            case ("push", False):
                self._replace(2, ("jump", target))

    def _leave_out_with_value(self):
        """Leave out the last instruction, if those before it only compute the value that it pops, with them."""
        needed = 1
        length = 1
        while needed > 0:
            length += 1
            before = self._last(length)
            if before[0] not in PURE:
                return
            needed += pops_of(before) - 1
        self._leave_out(length)

    def _is_needless_end(self, at):
        """Tell whether the last instruction that is kept does what happens behind it, too."""
        if self.instructions[at] != ("complete", "end") or at in self._targets:
            return False
        return not any(first <= at < last and word == "clean" for first, last, _, word, _ in self._guards)
