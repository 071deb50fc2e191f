"""Scopes, members and marks: who is called off, and why (points 30 to 34).

The world and the audit both go by these rules.
"""

# The asks at which a task that is called off gets no other reply.
POINTS = ("yield", "sleep", "await", "send", "receive", "select", "enter", "acquire")

NOTHING = ("value", None)
CANCELLED = ("cancelled",)
LATE = ("late",)
OUTSIDE = ("outside",)

# A mark is a scope, or this, which stands for a shield.
SHIELD = None


def is_shield(mark):
    """Tell whether a mark is a shield."""
    return mark is None


class Scope:
    """A scope that a task entered."""

    def __init__(self, number, owner, watched, deadline):
        self.number = number
        self.owner = owner
        self.watched = watched
        self.deadline = deadline
        self.cause = None
        self.members = []

    def call_off(self, cause):
        """Call the scope off with this cause, if it was not called off before."""
        if self.cause is not None:
            return
        self.cause = cause
        for member in self.members:
            if member.outcome is None:
                member.cancelled = True

    def call_off_if_late(self, now):
        """Call the scope off if its deadline was reached."""
        if self.deadline is not None and self.deadline <= now:
            self.call_off(LATE)

    def unfinished(self):
        """Return the numbers of the members that are not done, in ascending order."""
        return [member.number for member in self.members if member.outcome is None]


class Member:
    """A task, as far as it is a member of a scope and has marks.

    asked is the ask that was not replied to yet, and outcome that of a task that is done; each is
    None if there is none.
    """

    def __init__(self, number, scope):
        self.number = number
        self.scope = scope
        self.marks = []
        self.asked = None
        self.outcome = None
        self.cancelled = scope is not None and scope.cause is not None
        if scope is not None:
            scope.members.append(self)

    def last_scope(self):
        """Return the last scope among the marks, or None."""
        for mark in reversed(self.marks):
            if not is_shield(mark):
                return mark
        return None

    def is_called_off(self):
        """Tell whether the task is called off."""
        return self._is_called_off_by(self.marks)

    def is_called_off_besides(self):
        """Tell whether the task would be called off without its last mark."""
        return self._is_called_off_by(self.marks[:-1])

    def _is_called_off_by(self, marks):
        for mark in reversed(marks):
            if is_shield(mark):
                return False
            if mark.cause is not None:
                return True
        return self.cancelled

    def is_leaving(self):
        """Tell whether the task waits at a leave."""
        return self.asked is not None and self.asked[0] == "leave"

    def begin_leave(self, completion):
        """Call the scope of a leave off if its body failed or was cancelled."""
        if completion[0] == "throw":
            self.marks[-1].call_off(("failure", completion[1]))
        elif completion[0] == "cancelled":
            self.marks[-1].call_off(OUTSIDE)

    def reply_to_leave(self):
        """Return the reply to a leave whose scope has no members any more that are not done."""
        cause = self.marks[-1].cause
        if self.is_called_off_besides():
            return CANCELLED
        if cause is not None and cause[0] == "failure":
            return ("throw", cause[1])
        return NOTHING

    def call_off_from_outside(self):
        """Call the scope of a leave at which the task waits off, if the task would be called off without it."""
        if self.is_leaving() and self.is_called_off_besides():
            self.marks[-1].call_off(OUTSIDE)

    def report_failure(self):
        """Call the scope of a task that is done off if the task failed, unless the scope is watched."""
        if self.scope is not None and not self.scope.watched and self.outcome[0] == "throw":
            self.scope.call_off(("failure", self.outcome[1]))

    def reply_to_await(self):
        """Return the reply to an await for this task, which is done."""
        match self.outcome:
            case ("return", value):
                return ("value", value)
            case ("throw", number):
                return ("throw", number)
        return ("throw", -1)
