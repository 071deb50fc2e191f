"""Worlds for tests: programs whose tasks meet, and a world by the words of points 26 to 37 to compare with."""

import textwrap
import unittest

from helper import ProgramMaker, Told
from seedbed.audit import audit
from seedbed.checks import parse_program
from seedbed.world import World

POINTS = ("yield", "sleep", "await", "send", "receive", "select", "enter", "acquire")
NONE = ("value", None)
CANCELLED = ("cancelled",)


class MeetingMaker(ProgramMaker):
    """Makes valid programs whose tasks share channels, resources and scopes; the same ones for the same number."""

    PARAMS = [("c0", "channel"), ("c1", "channel"), ("p", "int")]

    def program(self):
        self.names, self.result = 0, None
        params = self.PARAMS
        heads = [("f", params, None), ("g", [*params, ("t", "task")], None), ("h", params, "int")]
        heads = heads[:self.random.randrange(1, 4)]
        self.spawned, self.called = heads, []
        program = []
        for name, kinds, result in heads:
            self.room, self.result = 12, result
            body = self.body(dict(kinds), 1, False)
            if result == "int":
                body.append(self.random.choice([("return", "p"), ("throw", "p"), ("return", ("+", "p", 1))]))
            program.append((name, list(kinds), result, body))
            self.called = [*self.called, (name, kinds, result)]
        self.room, self.result = 40, None
        size = self.random.choice([0, 0, 1, 2])
        visible = {"c0": "channel", "c1": "channel"}
        body = [("open", "c0", size), ("open", "c1", self.random.choice([0, 1, 3]))]
        for _ in range(self.random.randrange(1, 3)):
            body.append(self.make_scope("scope", visible, 1, False))
        program.append(("main", [], None, body))
        return program

    def expression(self, kind, visible, depth):
        names = [name for name in visible if visible[name] == kind]
        if names and (kind in ("channel", "task") or self.random.random() < 0.4):
            return self.random.choice(names)
        return self.random.randrange(-1, 5) if kind == "int" else self.random.random() < 0.5

    def of(self, kind, visible):
        return self.expression(kind, visible, 1)

    def statement(self, visible, depth, scoped):
        kinds = set(visible.values())
        words = ["emit", "sleep", "sleep", "yield", "now", "send", "receive", "send", "receive"]
        words.extend(["throw", "return", "close", "open"] if self.random.random() < 0.3 else [])
        words.extend(["await", "await", "cancel"] if "task" in kinds else [])
        words.extend(["call"] if self.able(self.called, visible) else [])
        words.extend(["spawn"] * 4 if scoped and self.able(self.spawned, visible) else [])
        if depth < 5:
            words.extend(["try", "finally", "scope", "shield", "using", "using", "select", "select", "loop"])
        word = self.random.choice(words)
        return getattr(self, "make_" + word, self.make_plain)(word, visible, depth, scoped)

    def make_scope(self, word, visible, depth, scoped):
        inner = dict(visible)
        spawns = [self.make_spawn("spawn", inner, depth, True) for _ in range(self.random.randrange(0, 4))
                  if self.able(self.spawned, inner)]
        time = self.random.choice([None, None, self.random.randrange(-1, 6)])
        return ("scope", time, self.random.random() < 0.4, [*spawns, *self.body(inner, depth + 1, True)])

    def make_loop(self, word, visible, depth, scoped):
        name = self.new_name()
        inner = {**visible, name: "int"}
        body = self.body(inner, depth + 2, scoped)
        loop = ("while", ("<", name, 3), [("set", name, ("+", name, 1)), *body])
        return ("if", True, [("let", name, self.random.randrange(3)), loop], [])


class ToldWorld:
    """A world by the words of the document, with lists of those that wait; its tasks are nested generators."""

    def __init__(self, program):
        self.program = program
        self.tasks, self.scopes, self.channels, self.events = [], [], [], []
        self.time = 0
        self.holder = [None] * 8
        self.line = [[] for _ in range(8)]
        self.make_task("main", [], None)

    def make_task(self, name, args, scope):
        number = len(self.tasks)
        cancelled = scope is not None and self.scopes[scope]["cause"] is not None
        self.tasks.append({
            "number": number, "run": Told(self.program, name, args), "marks": [], "cancelled": cancelled, "is": "ready",
            "reply": None, "scope": scope, "ask": None, "wake": [], "outcome": None,
        })
        if scope is not None:
            self.scopes[scope]["members"].append(number)
        self.events.append(("start", number, name, list(args), scope))
        return number

    def run(self, schedule, most):
        self.schedule = list(schedule)
        for _ in range(most):
            if self.end() is not None:
                break
            self.step()
        return self.end() or ("cut",)

    def end(self):
        if self.tasks[0]["is"] == "done":
            return ("done", self.tasks[0]["outcome"])
        if not self.ready() and self.coming() is None:
            return ("still",)
        return None

    def ready(self):
        return [task["number"] for task in self.tasks if task["is"] == "ready"]

    def choose(self, things):
        if len(things) == 1:
            return things[0]
        return things[self.schedule.pop(0) % len(things)] if self.schedule else things[0]

    def step(self):
        ready = self.ready()
        if not ready:
            return self.pass_time()
        number = self.choose(ready)
        task = self.tasks[number]
        kind, told = task["run"].resume(task["reply"])
        if kind == "ask":
            self.events.append(("ask", number, told))
            task["is"], task["ask"] = "waits", told
            if told[0] in POINTS and self.called_off(number, task["marks"]):
                self.reply(number, CANCELLED)
            else:
                getattr(self, "do_" + told[0])(number, *told[1:])
        else:
            self.finish(number, told)
        self.rule_33()

    def coming(self):
        times = [time for task in self.tasks for time, _ in task["wake"]]
        times += [scope["deadline"] for scope in self.scopes
                  if scope["open"] and scope["cause"] is None and scope["deadline"] is not None]
        return min(times) if times else None

    def pass_time(self):
        self.time = self.coming()
        self.events.append(("time", self.time))
        for at, scope in enumerate(self.scopes):
            if scope["open"] and scope["deadline"] is not None and scope["deadline"] <= self.time:
                self.call_off(at, ("late",))
        self.rule_33()
        for task in self.tasks:
            reached = [value for time, value in task["wake"] if time <= self.time]
            if reached:
                self.reply(task["number"], ("value", reached[0]))

    def reply(self, number, reply):
        task = self.tasks[number]
        assert task["is"] == "waits"
        task["is"], task["reply"], task["ask"], task["wake"] = "ready", reply, None, []
        for channel in self.channels:
            channel["senders"] = [entry for entry in channel["senders"] if entry[0] != number]
            channel["receivers"] = [entry for entry in channel["receivers"] if entry[0] != number]
        self.line = [[other for other in line if other != number] for line in self.line]
        self.events.append(("reply", number, reply))

    def called_off(self, number, marks):
        for mark in reversed(marks):
            if mark == "shield":
                return False
            if self.scopes[mark]["cause"] is not None:
                return True
        return self.tasks[number]["cancelled"]

    def call_off(self, scope, cause):
        if self.scopes[scope]["cause"] is None:
            self.scopes[scope]["cause"] = cause
            for number in self.scopes[scope]["members"]:
                if self.tasks[number]["is"] != "done":
                    self.tasks[number]["cancelled"] = True

    def rule_33(self):
        while any(self.apply_33(task) for task in self.tasks):
            pass

    def apply_33(self, task):
        number, marks = task["number"], task["marks"]
        if task["is"] != "waits":
            return False
        if task["ask"][0] in POINTS and self.called_off(number, marks):
            self.reply(number, CANCELLED)
            return True
        if task["ask"][0] != "leave" or self.scopes[marks[-1]]["cause"] is not None:
            return False
        if self.called_off(number, marks[:-1]):
            self.call_off(marks[-1], ("outside",))
            return True
        return False

    def finish(self, number, outcome):
        self.events.append(("done", number, outcome))
        task = self.tasks[number]
        task["is"], task["outcome"] = "done", outcome
        for other in self.tasks:
            if other["ask"] == ("await", number):
                self.reply(other["number"], self.told_end(number))
        if task["scope"] is not None:
            scope = self.scopes[task["scope"]]
            if outcome[0] == "throw" and not scope["watched"]:
                self.call_off(task["scope"], ("failure", outcome[1]))
            owner = self.tasks[scope["owner"]]
            if owner["ask"] is not None and owner["ask"][0] == "leave" and owner["marks"][-1] == task["scope"]:
                self.try_leave(scope["owner"])

    def told_end(self, number):
        outcome = self.tasks[number]["outcome"]
        return {"return": ("value", outcome[-1]), "throw": outcome, "cancelled": ("throw", -1)}[outcome[0]]

    def try_leave(self, number):
        marks = self.tasks[number]["marks"]
        scope = self.scopes[marks[-1]]
        if all(self.tasks[member]["is"] == "done" for member in scope["members"]):
            scope["open"] = False
            marks.pop()
            if self.called_off(number, marks):
                self.reply(number, CANCELLED)
            elif scope["cause"] is not None and scope["cause"][0] == "failure":
                self.reply(number, ("throw", scope["cause"][1]))
            else:
                self.reply(number, NONE)

    def do_yield(self, number, *rest):
        self.reply(number, NONE)

    do_emit = do_yield

    def do_now(self, number):
        self.reply(number, ("value", self.time))

    def do_sleep(self, number, span):
        if span <= 0:
            self.reply(number, NONE)
        else:
            self.tasks[number]["wake"] = [(self.time + span, None)]

    def do_spawn(self, number, name, args):
        if len(self.tasks) >= 200:
            self.reply(number, ("throw", -6))
        else:
            scope = [mark for mark in self.tasks[number]["marks"] if mark != "shield"][-1]
            self.reply(number, ("value", self.make_task(name, args, scope)))

    def do_await(self, number, other):
        if self.tasks[other]["is"] == "done":
            self.reply(number, self.told_end(other))

    def do_cancel(self, number, other):
        if self.tasks[other]["is"] != "done":
            self.tasks[other]["cancelled"] = True
        self.reply(number, NONE)

    def do_enter(self, number, span, watched):
        self.scopes.append({
            "owner": number, "watched": watched, "deadline": None if span is None else self.time + span,
            "cause": None if span is None or span > 0 else ("late",), "members": [], "open": True,
        })
        self.tasks[number]["marks"].append(len(self.scopes) - 1)
        self.reply(number, NONE)

    def do_leave(self, number, completion):
        scope = self.tasks[number]["marks"][-1]
        if completion[0] == "throw":
            self.call_off(scope, ("failure", completion[1]))
        if completion[0] == "cancelled":
            self.call_off(scope, ("outside",))
        self.try_leave(number)

    def do_shield(self, number):
        self.tasks[number]["marks"].append("shield")
        self.reply(number, NONE)

    def do_unveil(self, number):
        assert self.tasks[number]["marks"].pop() == "shield"
        self.reply(number, NONE)

    def do_acquire(self, number, resource):
        if not 0 <= resource <= 7:
            self.reply(number, ("throw", -5))
        elif self.holder[resource] is None:
            self.holder[resource] = number
            self.reply(number, NONE)
        else:
            self.line[resource].append(number)

    def do_release(self, number, resource):
        assert self.holder[resource] == number
        self.holder[resource] = None
        self.reply(number, NONE)
        if self.line[resource]:
            self.holder[resource] = self.line[resource][0]
            self.reply(self.line[resource][0], NONE)

    def do_open(self, number, size):
        if not 0 <= size <= 16:
            self.reply(number, ("throw", -4))
        else:
            self.channels.append({"size": size, "values": [], "closed": False, "senders": [], "receivers": []})
            self.reply(number, ("value", len(self.channels) - 1))

    def at_once(self, arm):
        if arm[0] == "after":
            return arm[1] <= 0
        channel = self.channels[arm[1]]
        if arm[0] == "send":
            return channel["closed"] or channel["receivers"] != [] or len(channel["values"]) < channel["size"]
        return channel["values"] != [] or channel["senders"] != [] or channel["closed"]

    def answer(self, number, arm, given):
        """Reply to an arm at once; given makes what the value of the reply is of the received number."""
        if arm[0] == "after":
            return self.reply(number, ("value", given(None)))
        channel = self.channels[arm[1]]
        if arm[0] == "send":
            if channel["closed"]:
                return self.reply(number, ("throw", -2))
            self.reply(number, ("value", given(None)))
            if channel["receivers"]:
                receiver, told = channel["receivers"][0]
                return self.reply(receiver, ("value", told(arm[2])))
            return channel["values"].append(arm[2])
        if channel["values"]:
            self.reply(number, ("value", given(channel["values"].pop(0))))
            if channel["senders"]:
                sender, told, value = channel["senders"][0]
                channel["values"].append(value)
                self.reply(sender, ("value", told(None)))
            return None
        if channel["senders"]:
            sender, told, value = channel["senders"][0]
            self.reply(sender, ("value", told(None)))
            return self.reply(number, ("value", given(value)))
        return self.reply(number, ("throw", -3))

    def stand(self, number, arm, given):
        channel = self.channels[arm[1]]
        if arm[0] == "send" and number not in [entry[0] for entry in channel["senders"]]:
            channel["senders"].append((number, given, arm[2]))
        if arm[0] == "receive" and number not in [entry[0] for entry in channel["receivers"]]:
            channel["receivers"].append((number, given))

    def do_send(self, number, *rest):
        arm = ("send", *rest)
        (self.answer if self.at_once(arm) else self.stand)(number, arm, lambda value: value)

    def do_receive(self, number, channel):
        arm = ("receive", channel)
        (self.answer if self.at_once(arm) else self.stand)(number, arm, lambda value: value)

    def do_close(self, number, at):
        channel = self.channels[at]
        self.reply(number, NONE)
        if not channel["closed"]:
            channel["closed"] = True
            while channel["senders"]:
                self.reply(channel["senders"][0][0], ("throw", -2))
            while channel["receivers"]:
                self.reply(channel["receivers"][0][0], ("throw", -3))

    def do_select(self, number, arms, has_default):
        possible = [index for index, arm in enumerate(arms) if self.at_once(arm)]
        if possible:
            index = self.choose(possible)
            self.answer(number, arms[index], lambda value: (index, value))
        elif has_default:
            self.reply(number, ("value", (len(arms), None)))
        else:
            for index, arm in enumerate(arms):
                if arm[0] == "after":
                    self.tasks[number]["wake"].append((self.time + arm[1], (index, None)))
                else:
                    self.stand(number, arm, lambda value, index=index: (index, value))


KINDS = ("direct", "compiled", "tidied")


def program_of(text):
    """Return the program of a text whose lines may be indented as a whole."""
    return parse_program(textwrap.dedent(text).lstrip("\n"))


class WorldCase(unittest.TestCase):
    """Tests that run programs; each run is looked at as points 37 to 41 tell."""

    def played(self, program, schedule=(), most=1000):
        """Run a program in worlds of all kinds; return the direct one, and how the run ended."""
        if isinstance(program, str):
            program = program_of(program)
        schedule = list(schedule)
        told = ToldWorld(program)
        expected = told.run(schedule, most)
        for kind in reversed(KINDS):
            world = World(program, kind=kind)
            end = world.run(schedule, most=most)
            self.assertEqual(end, expected)
            self.assertEqual(repr(world.trace()), repr(told.events))
            self.assertEqual(world.time, told.time)
        self.assertIsNone(audit(world.trace()))
        self.look_at(world.trace())
        self.look_at_waits(world, end)
        return world, end

    def look_at(self, events):
        """Check what point 39 says of every run."""
        done, members, scopes = {}, {}, []
        held, marks = {}, {}
        asks = {}
        for event in events:
            if event[0] == "start":
                members.setdefault(event[4], []).append(event[1])
                marks[event[1]], held[event[1]] = [], []
            elif event[0] == "ask":
                asks[event[1]] = event[2]
                if event[2][0] == "shield":
                    marks[event[1]].append("shield")
                if event[2][0] == "unveil":
                    self.assertEqual(marks[event[1]].pop(), "shield")
                if event[2][0] == "release":
                    self.assertEqual(held[event[1]].pop(), event[2][1])
            elif event[0] == "reply":
                word = asks[event[1]][0]
                if word == "enter" and event[2][0] == "value":
                    marks[event[1]].append(len(scopes))
                    scopes.append(event[1])
                if word == "acquire" and event[2][0] == "value":
                    held[event[1]].append(asks[event[1]][1])
                if word == "leave":
                    left = marks[event[1]].pop()
                    self.assertTrue(all(member in done for member in members.get(left, [])))
            elif event[0] == "done":
                done[event[1]] = event[2]
                self.assertEqual((marks[event[1]], held[event[1]]), ([], []))
        if 0 in done:
            self.assertEqual(sorted(done), sorted(marks))

    def look_at_waits(self, world, end):
        """Check that each task is done, waits, or can go on."""
        waits = world.waits()
        self.assertEqual(waits, sorted(waits, key=lambda wait: wait[0]))
        events = world.trace()
        asked = {}
        for event in events:
            if event[0] == "ask":
                asked[event[1]] = event[2]
            elif event[0] == "reply":
                del asked[event[1]]
        self.assertEqual([task for task, _ in waits], sorted(asked))
        if end == ("done", end[-1]):
            self.assertEqual(waits, [])
        if end == ("still",):
            started = {event[1] for event in events if event[0] == "start"}
            done = {event[1] for event in events if event[0] == "done"}
            self.assertEqual(started - done, set(asked))

    def outputs(self, program, schedule=(), most=1000):
        return self.played(program, schedule, most)[0].output()


def replies_to(events, word):
    """Return the replies to all asks with a word, in order."""
    found, asks = [], {}
    for event in events:
        if event[0] == "ask":
            asks[event[1]] = event[2]
        if event[0] == "reply" and asks[event[1]][0] == word:
            found.append(event[2])
    return found
