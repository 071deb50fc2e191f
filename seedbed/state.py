"""What a world consists of at a moment (point 26), its choices (point 27) and its events (point 37)."""

from seedbed.direct import Direct
from seedbed.machine import Machine
from seedbed.marks import Member

RESOURCES = 8


class Task(Member):
    """A task of a world. It is ready if it neither waits at an ask nor is done.

    reply is what its coroutine is resumed with next. While the task waits, order tells which of
    several tasks asked first, and times are pairs of an arm, or None for a sleep, and a time.
    """

    def __init__(self, number, scope, coroutine):
        super().__init__(number, scope)
        self.coroutine = coroutine
        self.reply = None
        self.order = 0
        self.times = []

    def is_ready(self):
        """Tell whether the task can be resumed."""
        return self.asked is None and self.outcome is None


class State:
    """The tasks, the scopes that are open, the channels, the resources and the time, with the trace up to now.

    source is the program of direct tasks, and the code of all others.
    """

    def __init__(self, source, is_direct):
        self._source = source
        self._is_direct = is_direct
        self._schedule = []
        self._used = 0
        self.tasks = []
        self.scopes = []
        self.entered = 0
        self.channels = []
        self.holders = [None] * RESOURCES
        self.now = 0
        self.events = []

    def follow(self, schedule):
        """Make the choices that come now by a schedule."""
        self._schedule = list(schedule)
        self._used = 0

    def choose(self, count):
        """Choose among so many things; return the index of one of them."""
        if count == 1 or self._used == len(self._schedule):
            return 0
        self._used += 1
        return self._schedule[self._used - 1] % count

    def start(self, name, args, scope):
        """Start a task, as a member of a scope or of none; return its number."""
        number = len(self.tasks)
        if self._is_direct:
            coroutine = Direct(self._source, name, args)
        else:
            coroutine = Machine(self._source, name, args)
        self.tasks.append(Task(number, scope, coroutine))
        self.events.append(("start", number, name, args, None if scope is None else scope.number))
        return number

    def reply_to(self, task, reply):
        """Reply to the ask of a task, which is ready then."""
        task.asked = None
        task.times = []
        task.reply = reply
        self.events.append(("reply", task.number, reply))

    def wait(self, task, ask, times):
        """Let a task wait at its ask."""
        task.asked = ask
        task.times = times
        task.order = len(self.events)


def value_for(arm, value):
    """Return the reply with a value to an ask, or to a select of which the arm with this index is chosen."""
    return ("value", value if arm is None else (arm, value))
