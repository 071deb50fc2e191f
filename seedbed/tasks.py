"""What the asks and the ends of tasks do, besides channels (points 28 to 34, and resources of point 35)."""

from seedbed.channels import answer_for_channel
from seedbed.marks import CANCELLED, NOTHING, POINTS, SHIELD, Scope
from seedbed.state import RESOURCES

MOST_TASKS = 200

NO_SUCH_RESOURCE = ("throw", -5)
TOO_MANY_TASKS = ("throw", -6)


def take_turn(state, task):
    """Let a task that is ready make one turn, with all that follows from it."""
    word, told = task.coroutine.resume(task.reply)
    if word == "ask":
        take_ask(state, task, told)
    else:
        end_task(state, task, told)
    call_off_waiting(state)


def take_ask(state, task, ask):
    """Reply to an ask, or let the task wait."""
    state.events.append(("ask", task.number, ask))
    if ask[0] in POINTS and task.is_called_off():
        state.reply_to(task, CANCELLED)
        return
    match ask[0]:
        case "open" | "send" | "receive" | "close" | "select":
            answer_for_channel(state, task, ask)
        case "enter" | "leave" | "shield" | "unveil":
            answer_for_mark(state, task, ask)
        case "acquire" | "release":
            answer_for_resource(state, task, ask)
        case _:
            answer(state, task, ask)


def answer(state, task, ask):
    """Reply to an ask that is about a task, the time or the output, or let the task wait."""
    match ask:
        case ("now",):
            state.reply_to(task, ("value", state.now))
        case ("sleep", span) if span > 0:
            state.wait(task, ask, [(None, state.now + span)])
        case ("spawn", name, args):
            if len(state.tasks) >= MOST_TASKS:
                state.reply_to(task, TOO_MANY_TASKS)
            else:
                started = state.start(name, args, task.last_scope())
                state.reply_to(task, ("value", started))
        case ("await", number):
            other = state.tasks[number]
            if other.outcome is None:
                state.wait(task, ask, [])
            else:
                state.reply_to(task, other.reply_to_await())
        case ("cancel", number):
            state.tasks[number].cancelled = True
            state.reply_to(task, NOTHING)
        case _:
            state.reply_to(task, NOTHING)


def answer_for_mark(state, task, ask):
    """Reply to an ask that changes the marks, or let the task wait at its leave."""
    match ask:
        case ("enter", span, watched):
            task.marks.append(new_scope(state, task, span, watched))
            state.reply_to(task, NOTHING)
        case ("leave", completion):
            task.begin_leave(completion)
            state.wait(task, ask, [])
            end_leave(state, task)
        case ("shield",):
            task.marks.append(SHIELD)
            state.reply_to(task, NOTHING)
        case ("unveil",):
            task.marks.pop()
            state.reply_to(task, NOTHING)


def new_scope(state, task, span, watched):
    """Return a new scope, which is open."""
    scope = Scope(state.entered, task, watched, None if span is None else state.now + span)
    scope.call_off_if_late(state.now)
    state.entered += 1
    state.scopes.append(scope)
    return scope


def end_leave(state, task):
    """Reply to the leave at which a task waits if all members of the scope are done."""
    scope = task.marks[-1]
    if not scope.unfinished():
        reply = task.reply_to_leave()
        task.marks.pop()
        state.scopes.remove(scope)
        state.reply_to(task, reply)


def answer_for_resource(state, task, ask):
    """Reply to an acquire or a release, or let the task wait for the resource."""
    word, number = ask
    if word == "release":
        release(state, task, number)
    elif not 0 <= number < RESOURCES:
        state.reply_to(task, NO_SUCH_RESOURCE)
    elif state.holders[number] is None:
        state.holders[number] = task.number
        state.reply_to(task, NOTHING)
    else:
        state.wait(task, ask, [])


def release(state, task, number):
    """Reply to a release, and give the resource to the task that waits for it first."""
    state.holders[number] = None
    state.reply_to(task, NOTHING)
    waiting = [other for other in state.tasks if other.asked == ("acquire", number)]
    if waiting:
        first = min(waiting, key=lambda other: other.order)
        state.holders[number] = first.number
        state.reply_to(first, NOTHING)


def end_task(state, task, outcome):
    """Let a task be done, and reply to those that wait for this."""
    state.events.append(("done", task.number, outcome))
    task.outcome = outcome
    for other in state.tasks:
        if other.asked == ("await", task.number):
            state.reply_to(other, task.reply_to_await())
    task.report_failure()
    scope = task.scope
    if scope is not None and scope.owner.is_leaving() and scope.owner.marks[-1] == scope:
        end_leave(state, scope.owner)


def call_off_waiting(state):
    """Withdraw the asks of tasks that are called off, and call off the scopes whose leaves such tasks wait at.

    A scope that is called off concerns its members, and these have greater numbers than its owner.
    So the tasks before it need not be looked at again.
    """
    for task in state.tasks:
        if task.asked is not None and task.asked[0] in POINTS and task.is_called_off():
            state.reply_to(task, CANCELLED)
        task.call_off_from_outside()
