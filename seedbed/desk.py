"""A desk: commands about a program and its world, and the answers (points 44 and 45)."""

from seedbed.audit import audit
from seedbed.errors import BadCommand
from seedbed.program import copied
from seedbed.waits import first_circle
from seedbed.world import KINDS, World

MOST_STEPS = 500
DIGITS = "0123456789"
MOST_DIGITS = 9


class Desk:
    """Answers commands about a program: runs of it in new worlds, and questions about the last one."""

    def __init__(self, program):
        self._world = World(program)
        self._program = copied(program)
        self._schedule = []

    def ask(self, command):
        """Return the answer to a command, a string."""
        word, *rest = command.split(" ")
        if word == "run":
            return self._run([number_of(part) for part in rest])
        if rest:
            raise BadCommand("only run is followed by other words")
        match word:
            case "output":
                return joined(self._world.output(), " ")
            case "time":
                return str(self._world.time)
            case "waits":
                return joined([wait_text(task, reason) for task, reason in self._world.waits()], "; ")
            case "circle":
                return joined(first_circle(self._world.waits()) or [], " ")
            case "audit":
                broken = audit(self._world.trace())
                return "clean" if broken is None else joined(broken, " ")
            case "same":
                return self._compare()
        raise BadCommand("a command begins with one of the words")

    def _run(self, schedule):
        self._world = World(self._program)
        self._schedule = schedule
        end = self._world.run(schedule, most=MOST_STEPS)
        match end:
            case ("done", ("throw", number)):
                return f"failed {number}"
            case ("done", _):
                return "done none"
        return end[0]

    def _compare(self):
        traces = []
        for kind in KINDS:
            world = World(self._program, kind=kind)
            world.run(self._schedule, most=MOST_STEPS)
            traces.append(world.trace())
        return "same" if all(events == traces[0] for events in traces) else "different"


def number_of(word):
    """Return the number that a word of a command stands for."""
    if not 1 <= len(word) <= MOST_DIGITS or not all(mark in DIGITS for mark in word):
        raise BadCommand("a number has 1 to 9 digits")
    if word[0] == "0" and word != "0":
        raise BadCommand("a number has no leading zero")
    return int(word)


def joined(parts, between):
    """Return the texts of the parts, joined, or the word none if there are no parts."""
    return between.join([str(part) for part in parts]) if parts else "none"


def wait_text(task, reason):
    """Return how a wait is written."""
    if reason[0] == "select":
        return f"{task} select"
    words = [",".join([str(member) for member in part]) if isinstance(part, list) else str(part) for part in reason]
    return " ".join([str(task), *words])
