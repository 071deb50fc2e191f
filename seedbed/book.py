"""What follows from a list of events up to one of them, for an audit (point 40)."""

from seedbed.marks import LATE, SHIELD, Member, Scope


class Audited(Member):
    """A task that was started. asked_at is the time of its last ask; was_called_off tells what held before it."""

    def __init__(self, number, scope):
        super().__init__(number, scope)
        self.asked_at = 0
        self.was_called_off = False


class Flow:
    """The numbers that were sent to a channel and received from it."""

    def __init__(self, size):
        self._size = size
        self._sent = []
        self._received = 0

    def is_balanced(self):
        """Tell whether as many numbers are left as the channel can hold."""
        return 0 <= len(self._sent) - self._received <= self._size

    def gives(self, number):
        """Tell whether this is the number that is to be received next."""
        return self._received < len(self._sent) and self._sent[self._received] == number

    def send(self, number):
        """Count a number as sent."""
        self._sent.append(number)

    def receive(self):
        """Count the next number as received."""
        self._received += 1


class Book:
    """The tasks, the scopes that were not left, the channels, the holders of resources and the time.

    Only events that break no rule are entered, so that each one fits those before it.
    """

    def __init__(self):
        self.tasks = []
        self.flows = []
        self.holders = {}
        self.now = 0
        self.last = None
        self.last_but_one = None
        self._scopes = []
        self._entered = 0

    def enter(self, event):
        """Take the next event in."""
        match event:
            case ("start", number, _, _, _):
                self._enter_start(number)
            case ("ask", number, ask):
                self._enter_ask(self.tasks[number], ask)
            case ("reply", number, reply):
                self._enter_reply(self.tasks[number], reply)
            case ("done", number, outcome):
                self.tasks[number].outcome = outcome
                self.tasks[number].report_failure()
            case ("time", time):
                self.now = time
                for scope in self._scopes:
                    scope.call_off_if_late(time)
        if event[0] in ("ask", "done", "time"):
            # The members of a scope have greater numbers than its owner, so they are looked at after it.
            for task in self.tasks:
                task.call_off_from_outside()
        self.last_but_one = self.last
        self.last = event

    def _enter_start(self, number):
        scope = self.tasks[self.last[1]].last_scope() if self.tasks else None
        self.tasks.append(Audited(number, scope))

    def _enter_ask(self, task, ask):
        task.was_called_off = task.is_called_off()
        task.asked_at = self.now
        task.asked = ask
        match ask:
            case ("shield",):
                task.marks.append(SHIELD)
            case ("unveil",):
                task.marks.pop()
            case ("release", number):
                del self.holders[number]
            case ("cancel", number):
                if 0 <= number < len(self.tasks):
                    self.tasks[number].cancelled = True
            case ("leave", completion):
                task.begin_leave(completion)

    def _enter_reply(self, task, reply):
        ask = task.asked
        task.asked = None
        if ask[0] == "leave":
            self._scopes.remove(task.marks.pop())
        elif reply[0] == "value":
            self._enter_value(task, ask, reply[1])

    def _enter_value(self, task, ask, value):
        """Take in the value of the reply to an ask, or to an arm of a select."""
        match ask:
            case ("enter", span, watched):
                self._enter_scope(task, span, watched)
            case ("acquire", number):
                self.holders[number] = task.number
            case ("open", size):
                self.flows.append(Flow(size))
            case ("send", channel, number):
                self.flows[channel].send(number)
            case ("receive", channel):
                self.flows[channel].receive()
            case ("select", arms, _):
                index, told = value
                if 0 <= index < len(arms):
                    self._enter_value(task, arms[index], told)

    def _enter_scope(self, task, span, watched):
        deadline = None if span is None else task.asked_at + span
        scope = Scope(self._entered, task, watched, deadline)
        if span is not None and span <= 0:
            scope.call_off(LATE)
        task.marks.append(scope)
        self._scopes.append(scope)
        self._entered += 1
