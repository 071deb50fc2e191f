"""Worlds: executing programs whose tasks run at the same time (points 26 to 39)."""

from seedbed.checks import check_program
from seedbed.clock import next_time, pass_time
from seedbed.compiler import compile_program
from seedbed.errors import OutOfRange
from seedbed.program import copied
from seedbed.state import State
from seedbed.tasks import take_turn
from seedbed.tidy import tidy_code
from seedbed.waits import waits_of

KINDS = ("direct", "compiled", "tidied")


class World:
    """A world of a program, with tasks of one kind."""

    def __init__(self, program, *, kind="direct"):
        check_program(program)
        if kind not in KINDS:
            raise OutOfRange("a kind is direct, compiled or tidied")
        self._state = State(source_for(program, kind), kind == "direct")
        self._state.start("main", [], None)

    def run(self, schedule, *, most=1000):
        """Make steps until the run ends, at most so many; return how it ended."""
        if most < 0 or any(number < 0 for number in schedule):
            raise OutOfRange("a schedule and a number of steps are not negative")
        self._state.follow(schedule)
        steps = 0
        end = self._end()
        while end is None and steps < most:
            self._make_step()
            steps += 1
            end = self._end()
        return ("cut",) if end is None else end

    def trace(self):
        """Return the events up to now."""
        return copied(self._state.events)

    def output(self):
        """Return the numbers of the emit asks up to now."""
        asks = [event[2] for event in self._state.events if event[0] == "ask"]
        return [ask[1] for ask in asks if ask[0] == "emit"]

    @property
    def time(self):
        """The time."""
        return self._state.now

    def waits(self):
        """Return who waits for what."""
        return waits_of(self._state.tasks, self._state.holders)

    def _ready_tasks(self):
        return [task for task in self._state.tasks if task.is_ready()]

    def _end(self):
        """Return how the run ended, or None if a step can be made."""
        outcome = self._state.tasks[0].outcome
        if outcome is not None:
            return ("done", outcome)
        if not self._ready_tasks() and next_time(self._state) is None:
            return ("still",)
        return None

    def _make_step(self):
        ready = self._ready_tasks()
        if ready:
            chosen = self._state.choose(len(ready))
            take_turn(self._state, ready[chosen])
        else:
            pass_time(self._state)


def source_for(program, kind):
    """Return what the tasks of this kind execute."""
    if kind == "direct":
        return copied(program)
    code = compile_program(program)
    return tidy_code(code) if kind == "tidied" else code
