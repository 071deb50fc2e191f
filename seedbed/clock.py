"""How time passes (point 36)."""

from seedbed.state import value_for
from seedbed.tasks import call_off_waiting


def next_time(state):
    """Return the time that comes if no task is ready, or None if no time can pass."""
    times = [time for task in state.tasks for _, time in task.times]
    for scope in state.scopes:
        if scope.deadline is not None and scope.cause is None:
            times.append(scope.deadline)
    return min(times, default=None)


def pass_time(state):
    """Let time pass; this is possible, and no task is ready."""
    state.now = next_time(state)
    state.events.append(("time", state.now))
    for scope in state.scopes:
        scope.call_off_if_late(state.now)
    call_off_waiting(state)
    for task in state.tasks:
        reached = [arm for arm, time in task.times if time <= state.now]
        if reached:
            state.reply_to(task, value_for(reached[0], None))
