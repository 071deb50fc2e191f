"""The asks for channels (point 35)."""

from seedbed.marks import NOTHING
from seedbed.state import value_for

LARGEST = 16

SEND_TO_CLOSED = ("throw", -2)
RECEIVE_FROM_CLOSED = ("throw", -3)
NO_SUCH_SIZE = ("throw", -4)


class Channel:
    """A channel of a world. Who waits for it is told by the tasks themselves."""

    def __init__(self, size):
        self.size = size
        self.held = []
        self.closed = False


def answer_for_channel(state, task, ask):
    """Reply to an ask for a channel, or let the task wait."""
    match ask:
        case ("open", size):
            make_channel(state, task, size)
        case ("close", number):
            close_channel(state, task, number)
        case ("select", _, _):
            select_arm(state, task, ask)
        case _:
            if is_possible(state, ask):
                perform(state, task, None, ask)
            else:
                state.wait(task, ask, [])


def make_channel(state, task, size):
    """Reply to an open."""
    if not 0 <= size <= LARGEST:
        state.reply_to(task, NO_SUCH_SIZE)
        return
    state.channels.append(Channel(size))
    state.reply_to(task, ("value", len(state.channels) - 1))


def close_channel(state, task, number):
    """Reply to a close; nobody waits for a channel that is closed already."""
    state.channels[number].closed = True
    state.reply_to(task, NOTHING)
    for word, reply in (("send", SEND_TO_CLOSED), ("receive", RECEIVE_FROM_CLOSED)):
        found = first_waiting(state, word, number)
        while found is not None:
            state.reply_to(found[0], reply)
            found = first_waiting(state, word, number)


def select_arm(state, task, ask):
    """Reply to a select, or let the task wait for all of its arms."""
    _, arms, has_default = ask
    possible = [index for index, arm in enumerate(arms) if is_possible(state, arm)]
    if possible:
        chosen = possible[state.choose(len(possible))]
        perform(state, task, chosen, arms[chosen])
    elif has_default:
        state.reply_to(task, value_for(len(arms), None))
    else:
        times = [(index, state.now + arm[1]) for index, arm in enumerate(arms) if arm[0] == "after"]
        state.wait(task, ask, times)


def first_waiting(state, word, number):
    """Return who was the first to ask for a channel by this word, of those that wait: the task, its arm and the ask.

    The arm is its index, or None if the task waits at this ask alone. The result is None if there is nobody.
    """
    found = None
    for task in state.tasks:
        if task.asked is not None and (found is None or task.order < found[0].order):
            place = place_in(task.asked, word, number)
            if place is not None:
                found = (task, *place)
    return found


def place_in(ask, word, number):
    """Return the first arm of an ask with this word and channel: its index, or None, and the arm. None if none fits."""
    parts = list(enumerate(ask[1])) if ask[0] == "select" else [(None, ask)]
    for index, part in parts:
        if part[0] == word and part[1] == number:
            return index, part
    return None


def is_possible(state, arm):
    """Tell whether an arm, or a send or receive alone, is replied to at once."""
    word, number = arm[0], arm[1]
    if word == "after":
        return number <= 0
    channel = state.channels[number]
    if channel.closed:
        return True
    if word == "send":
        return len(channel.held) < channel.size or first_waiting(state, "receive", number) is not None
    return len(channel.held) > 0 or first_waiting(state, "send", number) is not None


def perform(state, task, index, arm):
    """Reply to an arm that is possible, or to a send or receive alone, for which the index is None."""
    match arm:
        case ("send", number, value):
            send(state, task, index, number, value)
        case ("receive", number):
            receive(state, task, index, number)
        case _:
            state.reply_to(task, value_for(index, None))


def send(state, task, index, number, value):
    """Send a value to a channel that is closed, takes it, or has a receiver that waits."""
    channel = state.channels[number]
    if channel.closed:
        state.reply_to(task, SEND_TO_CLOSED)
        return
    found = first_waiting(state, "receive", number)
    state.reply_to(task, value_for(index, None))
    if found is None:
        channel.held.append(value)
    else:
        receiver, place, _ = found
        state.reply_to(receiver, value_for(place, value))


def receive(state, task, index, number):
    """Receive a value from a channel that has one, has a sender that waits, or is closed."""
    channel = state.channels[number]
    found = first_waiting(state, "send", number)
    if channel.held:
        state.reply_to(task, value_for(index, channel.held.pop(0)))
        if found is not None:
            sender, place, arm = found
            channel.held.append(arm[2])
            state.reply_to(sender, value_for(place, None))
    elif found is not None:
        sender, place, arm = found
        state.reply_to(sender, value_for(place, None))
        state.reply_to(task, value_for(index, arm[2]))
    else:
        state.reply_to(task, RECEIVE_FROM_CLOSED)
