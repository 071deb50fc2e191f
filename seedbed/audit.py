"""Auditing lists of events by the rules that every run keeps (points 40 and 41)."""

from seedbed.book import Book
from seedbed.marks import CANCELLED, POINTS, is_shield

NO_START = ("throw", -6)


def audit(events):
    """Return None if all rules are kept, otherwise the index of the first event that breaks one, and the least rule."""
    book = Book()
    for index, event in enumerate(events):
        rule = rule_broken_by(book, event)
        if rule is not None:
            return (index, rule)
        book.enter(event)
    return None


def rule_broken_by(book, event):
    """Return the least rule that an event breaks, or None."""
    if not book.tasks:
        return None if event == ("start", 0, "main", [], None) else 1
    match event:
        case ("start", started, name, args, scope):
            return rule_broken_by_start(book, started, ("spawn", name, args), scope)
        case ("time", time):
            return 5 if time <= book.now else rule_of_channels(book)
    word, number, told = event
    if not may_come(book, word, number):
        return 1
    task = book.tasks[number]
    match word:
        case "ask":
            return rule_of_channels(book) if may_ask(book, task, told) else 3
        case "reply":
            return rule_broken_by_reply(book, task, told)
    return rule_of_channels(book) if may_be_done(book, task) else 3


def may_come(book, word, number):
    """Tell whether an ask, a reply or a done of a task keeps the rule 1."""
    if not 0 <= number < len(book.tasks) or book.tasks[number].outcome is not None:
        return False
    return (book.tasks[number].asked is not None) == (word == "reply")


def rule_broken_by_start(book, number, spawn, scope):
    """Return the rule that the start of a task breaks, which is not the first one; spawn is the ask that fits it."""
    if number != len(book.tasks):
        return 1
    if book.last[0] != "ask" or not is_same_spawn(book.last[2], spawn):
        return 2
    expected = book.tasks[book.last[1]].last_scope()
    return None if expected is not None and expected.number == scope else 2


def is_same_spawn(ask, spawn):
    """Tell whether an ask is a spawn of the same name and args; 1 is not the same as True."""
    if ask != spawn:
        return False
    return [isinstance(value, bool) for value in ask[2]] == [isinstance(value, bool) for value in spawn[2]]


def rule_of_channels(book):
    """Return 7 if some channel holds too many numbers or too few, otherwise None."""
    return None if all(flow.is_balanced() for flow in book.flows) else 7


def may_ask(book, task, ask):
    """Tell whether an ask keeps the rule 3."""
    match ask:
        case ("leave", _):
            return len(task.marks) > 0 and not is_shield(task.marks[-1])
        case ("unveil",):
            return len(task.marks) > 0 and is_shield(task.marks[-1])
        case ("release", number):
            return book.holders.get(number) == task.number
    return True


def may_be_done(book, task):
    """Tell whether the end of a task keeps the rule 3."""
    return not task.marks and task.number not in list(book.holders.values())


def rule_broken_by_reply(book, task, reply):
    """Return the least rule that a reply breaks, or None."""
    word = task.asked[0]
    if word == "spawn" and not fits_start(book, task, reply):
        return 2
    if word == "leave" and task.marks[-1].unfinished():
        return 4
    if not fits_time(book, task, reply):
        return 5
    if word == "acquire" and reply[0] == "value" and task.asked[1] in book.holders:
        return 6
    if reply[0] == "value" and not fits_channels(book, task.asked, reply[1]):
        return 7
    if word == "await" and not fits_end(book, task.asked[1], reply):
        return 8
    return rule_of_leaving(task, reply) if word == "leave" else rule_of_cancelling(task, reply)


def fits_start(book, task, reply):
    """Tell whether a reply to a spawn keeps the rule 2."""
    match book.last:
        case ("start", number, _, _, _):
            return book.last_but_one[1] == task.number and reply == ("value", number)
        case ("ask", number, _):
            return number == task.number and reply == NO_START
    return False


def fits_time(book, task, reply):
    """Tell whether a reply keeps the rule 5."""
    match task.asked:
        case ("now",):
            return reply == ("value", book.now)
        case ("sleep", span):
            return reply[0] != "value" or book.now >= task.asked_at + span
    return True


def fits_channels(book, ask, value):
    """Tell whether the value of the reply to an ask, or to an arm of a select, keeps the rule 7."""
    match ask:
        case ("open", _):
            return value == len(book.flows)
        case ("send", channel, _):
            return 0 <= channel < len(book.flows)
        case ("receive", channel):
            return 0 <= channel < len(book.flows) and book.flows[channel].gives(value)
        case ("select", arms, _):
            index, number = value
            return not 0 <= index < len(arms) or fits_channels(book, arms[index], number)
    return True


def fits_end(book, number, reply):
    """Tell whether a reply to an await for a task keeps the rule 8."""
    if reply == CANCELLED:
        return True
    if not 0 <= number < len(book.tasks) or book.tasks[number].outcome is None:
        return False
    return reply == book.tasks[number].reply_to_await()


def rule_of_cancelling(task, reply):
    """Return 9 if a reply, not to a leave, breaks the rule 9, otherwise None."""
    is_point = task.asked[0] in POINTS
    if reply == CANCELLED:
        return None if is_point and task.is_called_off() else 9
    return 9 if is_point and task.was_called_off else None


def rule_of_leaving(task, reply):
    """Return the rule 9 or 10 if a reply to a leave breaks it, otherwise None."""
    expected = task.reply_to_leave()
    if reply == expected:
        return None
    return 9 if CANCELLED in (reply, expected) else 10
