"""An audit by the words of point 40: for each event, all that it asks for is found in the events before it."""

POINTS = ("yield", "sleep", "await", "send", "receive", "select", "enter", "acquire")


def told_audit(events):
    past = Past()
    for index, event in enumerate(events):
        broken = [rule for rule in range(1, 11) if breaks(past, index, events, event, rule)]
        if broken:
            return (index, broken[0])
        past.add(event)
    return None


class Past:
    """What follows from the events so far, as plain dicts and lists."""

    def __init__(self):
        self.scope_of, self.ask, self.outcome, self.marks, self.cancelled = {}, {}, {}, {}, set()
        self.ask_time, self.off_at_ask = {}, {}
        self.scopes, self.left = [], set()
        self.channels, self.holder, self.time = [], {}, 0

    def called_off(self, task, marks):
        for mark in marks[::-1]:
            if mark == "shield":
                return False
            if self.scopes[mark]["cause"]:
                return True
        return task in self.cancelled

    def call_off(self, scope, cause):
        if not self.scopes[scope]["cause"]:
            self.scopes[scope]["cause"] = cause
            self.cancelled |= {task for task in self.scope_of
                               if self.scope_of[task] == scope and task not in self.outcome}

    def members_done(self, scope):
        return all(task in self.outcome for task in self.scope_of if self.scope_of[task] == scope)

    def last_scope(self, task):
        scopes = [mark for mark in self.marks[task] if mark != "shield"]
        return scopes[-1] if scopes else None

    def add(self, event):
        word, number, *rest = event
        getattr(self, "add_" + word)(number, *rest)
        if word in ("ask", "done", "time"):
            self.rule_33()

    def rule_33(self):
        again = True
        while again:
            again = False
            for task, ask in sorted(self.ask.items()):
                if ask[0] == "leave":
                    scope = self.marks[task][-1]
                    if not self.scopes[scope]["cause"] and self.called_off(task, self.marks[task][:-1]):
                        self.call_off(scope, ("outside",))
                        again = True

    def add_start(self, task, name, args, scope):
        self.scope_of[task] = scope
        self.marks[task] = []
        if scope is not None and self.scopes[scope]["cause"]:
            self.cancelled.add(task)

    def add_ask(self, task, ask):
        self.off_at_ask[task] = self.called_off(task, self.marks[task])
        self.ask[task], self.ask_time[task] = ask, self.time
        if ask[0] == "shield":
            self.marks[task].append("shield")
        if ask[0] == "unveil":
            self.marks[task].pop()
        if ask[0] == "release":
            del self.holder[ask[1]]
        if ask[0] == "cancel" and ask[1] in self.scope_of and ask[1] not in self.outcome:
            self.cancelled.add(ask[1])
        if ask[0] == "leave" and ask[1][0] == "throw":
            self.call_off(self.marks[task][-1], ("failure", ask[1][1]))
        if ask[0] == "leave" and ask[1][0] == "cancelled":
            self.call_off(self.marks[task][-1], ("outside",))

    def add_reply(self, task, reply):
        ask = self.ask.pop(task)
        if ask[0] == "leave":
            self.left.add(self.marks[task].pop())
        if reply[0] != "value":
            return
        if ask[0] == "enter":
            self.marks[task].append(len(self.scopes))
            deadline = None if ask[1] is None else self.ask_time[task] + ask[1]
            cause = ("late",) if ask[1] is not None and ask[1] <= 0 else None
            self.scopes.append({"deadline": deadline, "watched": ask[2], "cause": cause})
        if ask[0] == "acquire":
            self.holder[ask[1]] = task
        if ask[0] == "open":
            self.channels.append({"size": ask[1], "sent": [], "received": []})
        moved = self.moved(ask, reply[1])
        if moved:
            self.channels[moved[1]][moved[0]].append(moved[2])

    def moved(self, ask, value):
        """What a value moves: sent or received, the channel and the number."""
        if ask[0] == "select":
            index, number = value
            if index not in range(len(ask[1])):
                return None
            return self.moved(ask[1][index], number)
        if ask[0] == "send":
            return ("sent", ask[1], ask[2])
        if ask[0] == "receive":
            return ("received", ask[1], value)
        return None

    def add_done(self, task, outcome):
        self.outcome[task] = outcome
        scope = self.scope_of[task]
        if scope is not None and not self.scopes[scope]["watched"] and outcome[0] == "throw":
            self.call_off(scope, ("failure", outcome[1]))

    def add_time(self, time):
        self.time = time
        for scope, entry in enumerate(self.scopes):
            if scope not in self.left and entry["deadline"] is not None and entry["deadline"] <= time:
                self.call_off(scope, ("late",))


def breaks(past, index, events, event, rule):
    """Tell whether an event breaks a rule, if it keeps those before."""
    if rule == 1:
        return breaks_1(past, index, event)
    if breaks_1(past, index, event) or index == 0:
        return False
    if rule == 7 and event[0] in ("ask", "done", "time"):
        return any(not 0 <= len(channel["sent"]) - len(channel["received"]) <= channel["size"]
                   for channel in past.channels)
    if event[0] == "start":
        if rule != 2:
            return False
        before = events[index - 1]
        if before[0] != "ask" or before[2][0] != "spawn":
            return True
        wanted = (before[2][1], repr(before[2][2]), past.last_scope(before[1]))
        return wanted[2] is None or wanted != (event[2], repr(event[3]), event[4])
    if event[0] == "ask":
        return rule == 3 and breaks_3(past, event[1], event[2])
    if event[0] == "done":
        return rule == 3 and bool(past.marks[event[1]] or event[1] in past.holder.values())
    if event[0] == "time":
        return rule == 5 and event[1] <= past.time
    task, reply = event[1], event[2]
    ask = past.ask[task]
    check = {2: reply_2, 4: reply_4, 5: reply_5, 6: reply_6, 7: reply_7, 8: reply_8, 9: reply_9, 10: reply_10}.get(rule)
    return check is not None and check(past, index, events, task, ask, reply)


def breaks_1(past, index, event):
    if index == 0:
        return event != ("start", 0, "main", [], None)
    if event[0] == "start":
        return event[1] != len(past.scope_of)
    if event[0] == "time":
        return False
    if event[1] not in past.scope_of or event[1] in past.outcome:
        return True
    return (event[1] in past.ask) != (event[0] == "reply")


def breaks_3(past, task, ask):
    last = past.marks[task][-1] if past.marks[task] else None
    if ask[0] == "leave":
        return last is None or last == "shield"
    if ask[0] == "unveil":
        return last != "shield"
    if ask[0] == "release":
        return past.holder.get(ask[1]) != task
    return False


def reply_2(past, index, events, task, ask, reply):
    if ask[0] != "spawn":
        return False
    mine = ("ask", task, ask)
    if events[index - 1] == mine:
        return reply != ("throw", -6)
    if events[index - 1][0] == "start" and events[index - 2] == mine:
        return reply != ("value", events[index - 1][1])
    return True


def reply_4(past, index, events, task, ask, reply):
    return ask[0] == "leave" and not past.members_done(past.marks[task][-1])


def reply_5(past, index, events, task, ask, reply):
    if ask[0] == "now":
        return reply != ("value", past.time)
    return ask[0] == "sleep" and reply[0] == "value" and past.time < past.ask_time[task] + ask[1]


def reply_6(past, index, events, task, ask, reply):
    return ask[0] == "acquire" and reply[0] == "value" and ask[1] in past.holder


def reply_7(past, index, events, task, ask, reply):
    if reply[0] != "value":
        return False
    if ask[0] == "open":
        return reply[1] != len(past.channels)
    moved = past.moved(ask, reply[1])
    if moved is None:
        return False
    if moved[1] not in range(len(past.channels)):
        return True
    channel = past.channels[moved[1]]
    place = len(channel["received"])
    return moved[0] == "received" and (place >= len(channel["sent"]) or channel["sent"][place] != moved[2])


def reply_8(past, index, events, task, ask, reply):
    if ask[0] != "await" or reply == ("cancelled",):
        return False
    outcome = past.outcome.get(ask[1])
    if outcome is None:
        return True
    return reply != {"return": ("value", outcome[-1]), "throw": outcome, "cancelled": ("throw", -1)}[outcome[0]]


def reply_9(past, index, events, task, ask, reply):
    marks = past.marks[task][:-1] if ask[0] == "leave" else past.marks[task]
    if reply == ("cancelled",):
        return ask[0] not in (*POINTS, "leave") or not past.called_off(task, marks)
    if ask[0] == "leave":
        return past.called_off(task, marks)
    return ask[0] in POINTS and past.off_at_ask[task]


def reply_10(past, index, events, task, ask, reply):
    if ask[0] != "leave" or reply == ("cancelled",):
        return False
    cause = past.scopes[past.marks[task][-1]]["cause"]
    return reply != (("throw", cause[1]) if cause and cause[0] == "failure" else ("value", None))
