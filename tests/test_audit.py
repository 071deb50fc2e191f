"""Points 40 and 41: auditing lists of events."""

import copy
import random
import unittest

from told_audit import told_audit
from helper import ProgramMaker
from seedbed.audit import audit
from seedbed.world import World
from worlds import MeetingMaker

CANCELLED = ("cancelled",)
NORMAL = ("normal",)
BEGIN = ("start", 0, "main", [], None)


def start(number, scope=0, name="f", *args):
    return ("start", number, name, list(args), scope)


def ask(task, word, *parts):
    return ("ask", task, (word, *parts))


def value(task, what=None):
    return ("reply", task, ("value", what))


def throw(task, number):
    return ("reply", task, ("throw", number))


def cancelled(task):
    return ("reply", task, CANCELLED)


def done(task, *outcome):
    return ("done", task, outcome or ("return", None))


def time(number):
    return ("time", number)


def made(task, *parts, what=None):
    """An ask and its reply with a value."""
    return [ask(task, *parts), value(task, what)]


def enter(task, span=None, watched=False):
    return made(task, "enter", span, watched)


def spawn(task, number, scope=0, name="f", *args):
    return [ask(task, "spawn", name, list(args)), start(number, scope, name, *args), value(task, number)]


def leave(task, completion=NORMAL):
    return ask(task, "leave", completion)


IN_SCOPE = [BEGIN, *enter(0)]
WITH_TASK = [*IN_SCOPE, *spawn(0, 1)]
WITH_TWO = [*WITH_TASK, *spawn(0, 2)]
WATCHED = [BEGIN, *enter(0, None, True), *spawn(0, 1)]


class Audits(unittest.TestCase):
    def broken(self, events, rule, index=None):
        """The last event, or the one at the index, breaks this rule first; those before it break none."""
        index = len(events) - 1 if index is None else index
        before = copy.deepcopy(events)
        self.assertEqual(audit(events), (index, rule))
        self.assertEqual(told_audit(events), (index, rule))
        self.assertIsNone(audit(events[:index]))
        self.assertEqual(events, before)

    def kept(self, events):
        self.assertIsNone(audit(events))
        self.assertIsNone(told_audit(events))


class Rule1(Audits):
    def test_no_events(self):
        self.kept([])

    def test_the_first_event(self):
        self.kept([BEGIN])
        for event in (
            ("start", 1, "main", [], None), ("start", 0, "f", [], None), ("start", 0, "main", [1], None),
            ("start", 0, "main", [], 0), ("start", -1, "main", [], None), ask(0, "yield"), value(0), done(0), time(1),
            time(0), leave(0),
        ):
            self.broken([event], 1)
            self.broken([event, BEGIN], 1, 0)

    def test_the_numbers_of_tasks(self):
        for number in (-1, 0, 2, 3, 10 ** 20):
            self.broken([*IN_SCOPE, ask(0, "spawn", "f", []), start(number)], 1)
            self.broken([BEGIN, start(number)], 1)
        self.broken([BEGIN, BEGIN], 1)
        self.broken([*WITH_TASK, ask(0, "spawn", "f", []), start(1)], 1)
        self.kept(WITH_TWO)

    def test_tasks_that_were_not_started(self):
        for number in (-1, 1, 2, 10 ** 20):
            for event in (ask(number, "yield"), value(number), done(number), ask(number, "unveil"), cancelled(number)):
                self.broken([BEGIN, event], 1)

    def test_tasks_that_are_done(self):
        for event in (ask(0, "yield"), value(0), done(0), done(0, "throw", 1), leave(0)):
            self.broken([BEGIN, done(0), event], 1)
            self.broken([BEGIN, *made(0, "yield"), done(0, "throw", 3), event], 1)
        self.kept([BEGIN, done(0), time(3)])

    def test_asks_and_replies_take_turns(self):
        for event in (ask(0, "yield"), done(0), ask(0, "unveil")):
            self.broken([BEGIN, ask(0, "emit", 1), event], 1)
            self.broken([BEGIN, *made(0, "yield"), ask(0, "sleep", 2), event], 1)
        for event in (value(0), throw(0, 1), cancelled(0)):
            self.broken([BEGIN, event], 1)
            self.broken([BEGIN, *made(0, "yield"), event], 1)
        self.kept([BEGIN, *made(0, "yield"), *made(0, "emit", 3), done(0)])

    def test_before_the_other_rules(self):
        self.broken([BEGIN, ask(0, "yield"), leave(0)], 1)
        self.broken([BEGIN, *made(0, "shield"), done(1)], 1)


class Rule2(Audits):
    def test_a_start_directly_after_its_ask(self):
        asked = [*IN_SCOPE, ask(0, "spawn", "f", [1, True])]
        self.kept([*asked, start(1, 0, "f", 1, True)])
        for event in (start(1, 0, "g", 1, True), start(1, 0, "f", 1), start(1, 0, "f", 1, False),
                      start(1, 0, "f", True, 1), start(1, 0, "f", 1, 1), start(1, 0, "f"),
                      start(1, 0, "f", 1, True, 3), start(1, None, "f", 1, True), start(1, 1, "f", 1, True),
                      start(1, -1, "f", 1, True)):
            self.broken([*asked, event], 2)
        self.broken([*asked, time(2), start(1, 0, "f", 1, True)], 2)
        self.broken([*asked, start(1, 0, "f", 1, True), start(2, 0, "f", 1, True)], 2)
        self.broken([*IN_SCOPE, start(1)], 2)
        self.broken([*IN_SCOPE, ask(0, "yield"), start(1)], 2)
        self.broken([BEGIN, start(1)], 2)

    def test_the_last_scope_of_the_marks(self):
        marks = [*IN_SCOPE, *made(0, "shield"), *enter(0), *made(0, "shield")]
        self.kept([*marks, *spawn(0, 1, 1)])
        self.broken([*marks, *spawn(0, 1, 0)], 2, len(marks) + 1)
        self.kept([*marks, *made(0, "unveil"), leave(0), value(0), *spawn(0, 1, 0)])
        self.kept([*WITH_TASK, *enter(1), *spawn(1, 2, 1), *spawn(0, 3, 0)])
        self.broken([*WITH_TASK, *enter(1), *spawn(1, 2, 0)], 2, len(WITH_TASK) + 3)

    def test_a_spawn_without_a_scope_has_no_start(self):
        self.broken([BEGIN, ask(0, "spawn", "f", []), start(1, None)], 2)
        self.broken([BEGIN, ask(0, "spawn", "f", []), start(1, 0)], 2)
        self.broken([BEGIN, *made(0, "shield"), ask(0, "spawn", "f", []), start(1, None)], 2)
        self.broken([*IN_SCOPE, leave(0), value(0), ask(0, "spawn", "f", []), start(1, 0)], 2)
        self.kept([BEGIN, ask(0, "spawn", "f", []), throw(0, -6)])

    def test_the_reply(self):
        asked = [*IN_SCOPE, ask(0, "spawn", "f", [])]
        for reply in (value(0, 0), value(0, 2), value(0), throw(0, -6), throw(0, 1), cancelled(0)):
            self.broken([*asked, start(1), reply], 2)
        for reply in (value(0, 1), value(0, 0), value(0), throw(0, -5), throw(0, 6), cancelled(0)):
            self.broken([*asked, reply], 2)
        self.kept([*asked, start(1), value(0, 1)])
        self.kept([*asked, throw(0, -6)])
        self.broken([*asked, start(1), time(3), value(0, 1)], 2)
        self.broken([*asked, time(3), throw(0, -6)], 2)
        self.broken([*asked, start(1), ask(1, "yield"), value(0, 1)], 2)

    def test_the_start_of_another_one(self):
        events = [*WITH_TASK, *enter(1), ask(0, "spawn", "f", []), ask(1, "spawn", "f", []), start(2, 1)]
        self.kept(events)
        self.broken([*events, value(0, 2)], 2)
        self.kept([*events, value(1, 2)])
        self.broken([*events, value(1, 2), value(0, 2)], 2)
        self.broken([*WITH_TASK, *enter(1), ask(0, "spawn", "f", []), ask(1, "spawn", "f", []), throw(0, -6)], 2)
        self.kept([*WITH_TASK, *enter(1), ask(0, "spawn", "f", []), ask(1, "spawn", "f", []), throw(1, -6)])


class Rule3(Audits):
    def test_leave(self):
        self.broken([BEGIN, leave(0)], 3)
        self.broken([*IN_SCOPE, *made(0, "shield"), leave(0)], 3)
        self.broken([*IN_SCOPE, leave(0), value(0), leave(0)], 3)
        self.broken([*WITH_TASK, leave(1)], 3)
        self.broken([BEGIN, ask(0, "enter", None, True), cancelled(0)], 9)
        self.broken([BEGIN, ask(0, "enter", None, True), throw(0, 1), leave(0)], 3)
        self.kept([*IN_SCOPE, leave(0)])

    def test_unveil(self):
        self.broken([BEGIN, ask(0, "unveil")], 3)
        self.broken([*IN_SCOPE, ask(0, "unveil")], 3)
        self.broken([BEGIN, *made(0, "shield"), *enter(0), ask(0, "unveil")], 3)
        self.broken([BEGIN, *made(0, "shield"), *made(0, "unveil"), ask(0, "unveil")], 3)
        self.kept([BEGIN, *made(0, "shield"), ask(0, "unveil")])
        # A shield is a mark from its ask on, whatever the reply.
        self.kept([BEGIN, ask(0, "shield"), throw(0, 3), ask(0, "unveil"), throw(0, 3), done(0)])

    def test_release(self):
        self.broken([BEGIN, ask(0, "release", 0)], 3)
        self.broken([BEGIN, *made(0, "acquire", 1), ask(0, "release", 0)], 3)
        self.broken([BEGIN, ask(0, "acquire", 1), throw(0, -5), ask(0, "release", 1)], 3)
        self.broken([*WITH_TASK, *made(0, "acquire", 1), ask(1, "release", 1)], 3)
        self.broken([BEGIN, *made(0, "acquire", 1), *made(0, "release", 1), ask(0, "release", 1)], 3)
        for number in (0, 7, 8, -1, 10 ** 20):
            self.kept([BEGIN, *made(0, "acquire", number), *made(0, "release", number), done(0)])

    def test_done(self):
        self.broken([*IN_SCOPE, done(0)], 3)
        self.broken([BEGIN, *made(0, "shield"), done(0)], 3)
        self.broken([BEGIN, *made(0, "acquire", 4), done(0)], 3)
        self.broken([BEGIN, *made(0, "acquire", 4), *made(0, "acquire", 5), *made(0, "release", 4), done(0)], 3)
        self.broken([*WITH_TASK, *made(1, "acquire", 4), done(1, "cancelled")], 3)
        self.kept([*WITH_TASK, *made(0, "acquire", 4), done(1)])
        self.kept([*WITH_TASK, done(1), leave(0), value(0), done(0)])


class Rule4(Audits):
    def test_members_that_are_not_done(self):
        for reply in (value(0), throw(0, 1), cancelled(0), value(0, 3)):
            self.broken([*WITH_TASK, leave(0), reply], 4)
            self.broken([*WITH_TWO, done(1), leave(0), reply], 4)
            self.broken([*WITH_TWO, leave(0), done(2), reply], 4)
        self.kept([*WITH_TWO, done(1), leave(0), done(2), value(0)])
        self.kept([*WITH_TASK, *enter(0), leave(0), value(0)])
        self.kept([*WITH_TASK, *enter(1), *spawn(1, 2, 1), *enter(0), leave(0), value(0)])
        self.broken([*WITH_TASK, *enter(1), *spawn(1, 2, 1), done(2), leave(0), value(0)], 4)


class Rule5(Audits):
    def test_time(self):
        self.broken([BEGIN, time(0)], 5)
        self.broken([BEGIN, time(-1)], 5)
        self.broken([BEGIN, time(3), time(3)], 5)
        self.broken([BEGIN, time(3), time(4), time(2)], 5)
        self.kept([BEGIN, time(1), time(2), time(10 ** 30)])

    def test_now(self):
        self.kept([BEGIN, *made(0, "now", what=0)])
        self.kept([BEGIN, time(4), *made(0, "now", what=4)])
        self.kept([BEGIN, ask(0, "now"), time(4), value(0, 4)])
        for reply in (value(0, 0), value(0, 5), value(0), throw(0, 4), cancelled(0)):
            self.broken([BEGIN, time(4), ask(0, "now"), reply], 5)

    def test_sleep(self):
        for span in (-4, 0):
            self.kept([BEGIN, *made(0, "sleep", span), *made(0, "sleep", span)])
        self.broken([BEGIN, *made(0, "sleep", 1)], 5)
        self.broken([BEGIN, time(3), ask(0, "sleep", 4), time(6), value(0)], 5)
        for late in (7, 8, 50):
            self.kept([BEGIN, time(3), ask(0, "sleep", 4), time(late), value(0)])
        self.kept([BEGIN, ask(0, "sleep", 4), throw(0, 1)])
        self.broken([BEGIN, ask(0, "sleep", 4), cancelled(0)], 9)


class Rule6(Audits):
    def test_resources_that_are_held(self):
        self.broken([BEGIN, *made(0, "acquire", 2), *made(0, "acquire", 2)], 6)
        self.broken([*WITH_TASK, *made(0, "acquire", 2), ask(1, "acquire", 2), value(1)], 6)
        self.kept([*WITH_TASK, *made(0, "acquire", 2), ask(1, "acquire", 2), throw(1, -5)])
        self.kept([*WITH_TASK, *made(0, "acquire", 2), ask(1, "acquire", 2), ask(0, "release", 2), value(1)])
        self.kept([*WITH_TASK, *made(0, "acquire", 2), *made(1, "acquire", 3), ask(0, "acquire", 4)])
        # A resource is held from the reply on, so two may ask for it.
        events = [*WITH_TASK, ask(0, "acquire", 2), ask(1, "acquire", 2), value(1)]
        self.kept(events)
        self.broken([*events, value(0)], 6)


class Rule7(Audits):
    OPENED = [BEGIN, *made(0, "open", 2, what=0)]

    def test_open(self):
        self.kept([*self.OPENED, *made(0, "open", 0, what=1)])
        for what in (None, 1, -1):
            self.broken([BEGIN, *made(0, "open", 2, what=what)], 7)
        self.broken([*self.OPENED, *made(0, "open", 0, what=0)], 7)
        self.broken([*self.OPENED, *made(0, "open", 0, what=2)], 7)
        self.kept([BEGIN, ask(0, "open", 2), throw(0, 3), *made(0, "open", 2, what=0)])

    def test_channels_that_were_not_opened(self):
        for channel in (-1, 1, 7):
            self.broken([*self.OPENED, *made(0, "send", channel, 5)], 7)
            self.broken([*self.OPENED, *made(0, "receive", channel, what=5)], 7)
            self.broken([*self.OPENED, *made(0, "select", [("send", channel, 5)], False, what=(0, None))], 7)
            self.broken([*self.OPENED, *made(0, "select", [("receive", channel)], False, what=(0, 5))], 7)
            for word, parts in (("send", (channel, 5)), ("receive", (channel,)), ("close", (channel,))):
                self.kept([*self.OPENED, ask(0, word, *parts), throw(0, -2)])
        self.kept([*self.OPENED, *made(0, "close", 9)])
        self.broken([BEGIN, ask(0, "send", 0, 1), value(0)], 7)

    def test_numbers_in_their_order(self):
        sent = [*self.OPENED, *made(0, "send", 0, 5), *made(0, "send", 0, 6)]
        self.kept([*sent, *made(0, "receive", 0, what=5), *made(0, "receive", 0, what=6)])
        for what in (6, 0, None, -5):
            self.broken([*sent, *made(0, "receive", 0, what=what)], 7)
        self.broken([*sent, *made(0, "receive", 0, what=5), *made(0, "receive", 0, what=5)], 7)
        self.broken([*self.OPENED, *made(0, "receive", 0, what=0)], 7)
        self.broken([*self.OPENED, *made(0, "receive", 0)], 7)
        self.broken([*self.OPENED, ask(0, "send", 0, 5), throw(0, -2), *made(0, "receive", 0, what=5)], 7)
        self.kept([*sent, ask(0, "receive", 0), throw(0, -3), *made(0, "receive", 0, what=5)])

    def test_several_channels(self):
        events = [*self.OPENED, *made(0, "open", 1, what=1), *made(0, "send", 0, 5), *made(0, "send", 1, 6)]
        self.kept([*events, *made(0, "receive", 1, what=6), *made(0, "receive", 0, what=5)])
        self.broken([*events, *made(0, "receive", 1, what=5)], 7)

    def test_selects(self):
        arms = [("send", 0, 5), ("receive", 0), ("after", 3), ("send", 0, 6)]
        chosen = [*self.OPENED]
        for what in ((0, None), (3, 8)):
            chosen.extend(made(0, "select", arms, True, what=what))
        self.kept([*chosen, *made(0, "select", arms, True, what=(1, 5)), *made(0, "receive", 0, what=6)])
        for what in ((1, 6), (1, None), (1, 8)):
            self.broken([*chosen, *made(0, "select", arms, True, what=what)], 7)
        for index in (2, 4, 5, 99, -1, -3, -4):
            events = [*self.OPENED, *made(0, "select", arms, index % 2 == 0, what=(index, 7))]
            self.kept([*events, *made(0, "yield")])
            self.broken([*events, *made(0, "receive", 0, what=5)], 7)
        self.kept([*self.OPENED, ask(0, "select", arms, False), throw(0, -2), *made(0, "send", 0, 1)])

    def test_an_index_below_0_is_that_of_no_arm(self):
        arms = [("after", 3), ("receive", 0)]
        for what in ((-1, 9), (-2, 9), (-1, None)):
            self.kept([*self.OPENED, *made(0, "select", arms, False, what=what), *made(0, "yield")])
        events = [*self.OPENED, *made(0, "select", [("send", 0, 6)], False, what=(-1, None))]
        self.broken([*events, *made(0, "receive", 0, what=6)], 7)
        self.broken([*self.OPENED, *made(0, "send", 0, 5), *made(0, "receive", -1, what=5)], 7)

    def test_more_than_the_size(self):
        full = [*self.OPENED, *made(0, "send", 0, 5), *made(0, "send", 0, 6), ask(0, "send", 0, 7)]
        self.kept([*full, throw(0, -2), *made(0, "yield")])
        over = [*full, value(0)]
        self.kept(over)
        for event in (ask(0, "yield"), done(0), time(3)):
            self.broken([*over, event], 7)
        self.broken([*over, leave(0)], 3)
        self.broken([*over, time(0)], 5)
        self.broken([*over, value(0)], 1)

    def test_a_sender_and_a_receiver_in_one_turn(self):
        for size in (0, 1):
            events = [BEGIN, *enter(0), *made(0, "open", size, what=0), *spawn(0, 1)]
            meeting = [*events, ask(0, "receive", 0), ask(1, "send", 0, 4)]
            self.kept([*meeting, value(1), value(0, 4), ask(1, "yield")])
            self.broken([*meeting, value(0, 4)], 7)
            self.broken([*meeting, value(1), value(0, 3)], 7)
            self.kept([*meeting, value(1)])
            between = [*meeting, value(1), ask(1, "yield")]
            self.kept(between) if size else self.broken(between, 7)

    def test_a_receiver_before_the_sender_whose_number_takes_the_place(self):
        events = [BEGIN, *enter(0), *made(0, "open", 1, what=0), *spawn(0, 1), *made(0, "send", 0, 4)]
        events = [*events, ask(0, "send", 0, 5), ask(1, "receive", 0)]
        self.kept([*events, value(1, 4), value(0), ask(1, "yield")])
        self.kept([*events, value(0), value(1, 4), ask(1, "yield")])
        self.broken([*events, value(0), time(1)], 7)

    def test_sizes(self):
        for size in (-1, -5):
            events = [BEGIN, *made(0, "open", size, what=0)]
            self.kept(events)
            for event in (ask(0, "yield"), done(0), time(1)):
                self.broken([*events, event], 7)
        self.kept([BEGIN, *made(0, "open", 17, what=0), *made(0, "send", 0, 1) * 17, done(0)])


class Rule8(Audits):
    def test_tasks_that_are_not_done(self):
        for reply in (value(0), value(0, 0), throw(0, -1), throw(0, 3)):
            self.broken([*WITH_TASK, ask(0, "await", 1), reply], 8)
            for number in (0, 2, -1, 99):
                self.broken([*WITH_TASK, done(1), ask(0, "await", number), reply], 8)
        self.broken([*WITH_TASK, ask(0, "await", 1), cancelled(0)], 9)
        self.broken([*WITH_TASK, ask(0, "await", 99), cancelled(0)], 9)

    def test_what_is_told_of_each_outcome(self):
        replies = [value(0), value(0, 0), value(0, 7), throw(0, 7), throw(0, -1), throw(0, 0)]
        for outcome, right in ((("return", None), 0), (("return", 7), 2), (("throw", 7), 3), (("cancelled",), 4),
                               (("return", 0), 1), (("throw", -1), 4)):
            for index, reply in enumerate(replies):
                for events in ([*WATCHED, done(1, *outcome), ask(0, "await", 1), reply],
                               [*WATCHED, ask(0, "await", 1), done(1, *outcome), reply]):
                    self.kept(events) if index == right else self.broken(events, 8)


class Rule9(Audits):
    POINTS = [("yield",), ("sleep", 0), ("await", 1), ("send", 0, 1), ("receive", 0), ("select", [("after", 0)], True),
              ("enter", None, True), ("acquire", 0)]
    OTHERS = [("emit", 1), ("cancel", 1), ("open", 1), ("close", 0), ("shield",)]

    def test_only_at_a_point_or_a_leave(self):
        off = [BEGIN, *enter(0, 0)]
        for parts in self.OTHERS:
            self.broken([*off, ask(0, *parts), cancelled(0)], 9)
        self.broken([*off, ask(0, "now"), cancelled(0)], 5)
        self.broken([*off, ask(0, "spawn", "f", []), cancelled(0)], 2)
        for parts in self.POINTS:
            self.kept([*off, ask(0, *parts), cancelled(0)])
        held = [BEGIN, *made(0, "acquire", 3), *enter(0, 0), ask(0, "release", 3), cancelled(0)]
        self.broken(held, 9)
        self.broken([*off, ask(0, "shield"), value(0), ask(0, "unveil"), cancelled(0)], 9)

    def test_only_if_the_task_is_called_off(self):
        for parts in self.POINTS:
            self.broken([*IN_SCOPE, ask(0, *parts), cancelled(0)], 9)
        self.broken([*IN_SCOPE, leave(0), cancelled(0)], 9)
        self.broken([BEGIN, *enter(0, 0), leave(0), cancelled(0)], 9)

    def test_no_other_reply_at_a_point(self):
        off = [BEGIN, *made(0, "open", 1, what=0), *enter(0, 0)]
        for parts in self.POINTS:
            what = (0, None) if parts[0] == "select" else None
            rule = {"receive": 7, "await": 8}.get(parts[0], 9)
            self.broken([*off, ask(0, *parts), value(0, what)], rule)
            self.broken([*off, ask(0, *parts), throw(0, -1)], 8 if parts[0] == "await" else 9)
        for parts in self.OTHERS:
            self.kept([*off, ask(0, *parts), value(0, 1 if parts[0] == "open" else None)])

    def test_called_off_at_the_ask_or_behind_it(self):
        events = [*WITH_TASK, ask(1, "yield"), ask(0, "cancel", 1)]
        self.kept([*events, cancelled(1)])
        # At its ask the task was not called off, so another reply breaks no rule.
        self.kept([*events, value(1)])
        self.kept([*events, throw(1, 3)])
        self.broken([*WITH_TASK, ask(0, "cancel", 1), ask(1, "yield"), value(1)], 9)
        self.kept([*WITH_TASK, ask(0, "cancel", 1), ask(1, "yield"), cancelled(1)])

    def test_cancel(self):
        cancel = [*WITH_TWO, ask(0, "cancel", 1)]
        self.kept([*cancel, value(0), ask(1, "yield"), cancelled(1)])
        self.kept([*cancel, throw(0, 3), ask(1, "yield"), cancelled(1)])
        self.broken([*cancel, value(0), ask(2, "yield"), cancelled(2)], 9)
        self.kept([*WITH_TASK, *made(0, "cancel", 0), ask(0, "yield"), cancelled(0)])
        self.broken([*WITH_TASK, *made(0, "cancel", 0), ask(0, "yield"), value(0)], 9)
        # A cancel of a task that was not started, or is done, has no effect.
        for number in (2, -1, 99):
            self.broken([*WITH_TASK, *made(0, "cancel", number), ask(1, "yield"), cancelled(1)], 9)
        self.kept([*WITH_TASK, *made(0, "cancel", 2), *spawn(0, 2), *made(2, "yield")])
        self.broken([*WITH_TASK, *made(0, "cancel", 2), *spawn(0, 2), ask(2, "yield"), cancelled(2)], 9)
        self.kept([*WITH_TASK, done(1), *made(0, "cancel", 1), *made(0, "await", 1)])

    def test_shields(self):
        off = [*WITH_TASK, *made(0, "cancel", 1), ask(1, "shield"), value(1)]
        self.kept([*off, *made(1, "yield")])
        self.broken([*off, ask(1, "yield"), cancelled(1)], 9)
        self.broken([*off, *made(1, "unveil"), ask(1, "yield"), value(1)], 9)
        inner = [*off, *enter(1, 0)]
        self.kept([*inner, ask(1, "yield"), cancelled(1)])
        self.broken([*inner, ask(1, "yield"), value(1)], 9)
        # Without the scope the shield is the last mark, so the leave is not cancelled.
        self.kept([*inner, leave(1), value(1)])
        self.broken([*inner, leave(1), cancelled(1)], 9)

    def test_leaves_of_tasks_that_are_called_off(self):
        off = [*WITH_TASK, *enter(1), *made(0, "cancel", 1), leave(1)]
        self.kept([*off, cancelled(1)])
        for reply in (value(1), throw(1, 3), value(1, 3)):
            self.broken([*off, reply], 9)
        late = [BEGIN, *enter(0, 3), *enter(0), time(3), leave(0)]
        self.kept([*late, cancelled(0)])
        self.broken([*late, value(0)], 9)

    def test_deadlines(self):
        for span, now, off in ((3, 2, False), (3, 3, True), (3, 9, True), (0, None, True), (-4, None, True),
                               (1, None, False)):
            events = [BEGIN, *enter(0, span), *([time(now)] if now else []), ask(0, "yield")]
            self.kept([*events, cancelled(0)]) if off else self.broken([*events, cancelled(0)], 9)
            self.broken([*events, value(0)], 9) if off else self.kept([*events, value(0)])

    def test_a_deadline_counts_from_the_time_of_the_ask(self):
        events = [BEGIN, time(2), ask(0, "enter", 3, False), time(4), value(0)]
        self.kept([*events, *made(0, "yield"), time(5), ask(0, "yield"), cancelled(0)])
        self.broken([*events, time(5), ask(0, "yield"), value(0)], 9)
        # If the deadline was reached before the reply, the scope is called off when time passes again.
        events = [BEGIN, ask(0, "enter", 3, False), time(4), value(0)]
        self.kept([*events, *made(0, "yield"), time(5), ask(0, "yield"), cancelled(0)])
        self.broken([*events, ask(0, "yield"), cancelled(0)], 9)
        self.broken([*events, time(5), ask(0, "yield"), value(0)], 9)

    def test_a_deadline_of_a_scope_that_was_left(self):
        self.kept([BEGIN, *enter(0, 3), leave(0), value(0), time(4), *made(0, "yield")])

    def test_failures_of_members(self):
        failed = [*WITH_TWO, ask(2, "yield"), done(1, "throw", 5)]
        self.kept([*failed, cancelled(2), ask(0, "yield"), cancelled(0)])
        self.broken([*failed, ask(0, "yield"), value(0)], 9)
        watched = [*WATCHED, *spawn(0, 2), ask(2, "yield"), done(1, "throw", 5)]
        self.kept([*watched, value(2), *made(0, "yield")])
        self.broken([*watched, cancelled(2)], 9)
        for outcome in (("return", 5), ("cancelled",), ("return", None)):
            self.broken([*WITH_TWO, ask(2, "yield"), done(1, *outcome), cancelled(2)], 9)

    def test_failures_of_owners(self):
        for completion, off in ((("throw", 4), True), (CANCELLED, True), (NORMAL, False), (("return", 3), False)):
            events = [*WITH_TASK, ask(1, "yield"), leave(0, completion)]
            self.kept([*events, cancelled(1)]) if off else self.broken([*events, cancelled(1)], 9)

    def test_scopes_of_owners_that_are_called_off(self):
        waiting = [*WITH_TASK, *enter(1), *spawn(1, 2, 1), ask(2, "yield"), leave(1)]
        for event in (ask(0, "cancel", 1), leave(0, ("throw", 3)), leave(0, CANCELLED)):
            self.kept([*waiting, event, cancelled(2)])
        self.broken([*waiting, leave(0), cancelled(2)], 9)
        working = [*WITH_TASK, *enter(1), *spawn(1, 2, 1), ask(2, "yield")]
        self.broken([*working, ask(0, "cancel", 1), cancelled(2)], 9)
        self.kept([*working, ask(0, "cancel", 1), leave(1), cancelled(2)])
        shielded = [*WITH_TASK, *made(1, "shield"), *enter(1), *spawn(1, 2, 1), ask(2, "yield"), leave(1)]
        self.broken([*shielded, ask(0, "cancel", 1), cancelled(2)], 9)
        late = [BEGIN, *enter(0, 3), *enter(0), *spawn(0, 1, 1), ask(1, "sleep", 9), leave(0)]
        self.kept([*late, time(3), cancelled(1)])
        self.broken([*late, time(2), cancelled(1)], 9)

    def test_owners_one_within_the_other(self):
        events = [*WITH_TASK]
        for task in range(1, 5):
            events.extend([*enter(task), *spawn(task, task + 1, task)])
        events.append(ask(5, "yield"))
        events.extend([leave(task) for task in (1, 2, 3, 4)])
        self.kept([*events, ask(0, "cancel", 1), cancelled(5), done(5, "cancelled"), cancelled(4)])
        self.broken([*events, ask(0, "cancel", 0), cancelled(5)], 9)

    def test_tasks_of_scopes_that_were_called_off(self):
        events = [BEGIN, *enter(0, 0), *spawn(0, 1)]
        self.kept([*events, ask(1, "yield"), cancelled(1)])
        self.broken([*events, ask(1, "yield"), value(1)], 9)


class Rule10(Audits):
    def test_replies_to_leaves(self):
        for completion in (NORMAL, ("return", None), ("return", 3), CANCELLED):
            self.kept([*IN_SCOPE, leave(0, completion), value(0)])
            for reply in (value(0, 0), value(0, 3), throw(0, 3), throw(0, -1)):
                self.broken([*IN_SCOPE, leave(0, completion), reply], 10)
        self.kept([*IN_SCOPE, leave(0, ("throw", 3)), throw(0, 3)])
        for reply in (value(0), value(0, 3), throw(0, 4)):
            self.broken([*IN_SCOPE, leave(0, ("throw", 3)), reply], 10)

    def test_the_first_cause_counts(self):
        self.kept([BEGIN, *enter(0, 0), leave(0, ("throw", 3)), value(0)])
        self.broken([BEGIN, *enter(0, 0), leave(0, ("throw", 3)), throw(0, 3)], 10)
        self.kept([BEGIN, *enter(0, 2), time(3), leave(0, ("throw", 3)), value(0)])
        self.kept([*WITH_TASK, done(1, "throw", 5), leave(0, ("throw", 3)), throw(0, 5)])
        self.broken([*WITH_TASK, done(1, "throw", 5), leave(0, ("throw", 3)), throw(0, 3)], 10)
        self.kept([*WITH_TASK, leave(0, ("throw", 3)), done(1, "throw", 5), throw(0, 3)])
        self.broken([*WITH_TASK, leave(0, CANCELLED), done(1, "throw", 5), throw(0, 5)], 10)
        self.kept([*WITH_TASK, leave(0), done(1, "throw", 5), throw(0, 5)])
        self.kept([*WATCHED, leave(0), done(1, "throw", 5), value(0)])
        self.broken([*WATCHED, leave(0), done(1, "throw", 5), throw(0, 5)], 10)

    def test_a_scope_called_off_from_outside(self):
        events = [*WITH_TASK, *enter(1), *spawn(1, 2, 1), leave(1), ask(0, "cancel", 1), done(2, "throw", 4)]
        self.kept([*events, cancelled(1)])
        self.broken([*events, throw(1, 4)], 9)
        shielded = [*WITH_TASK, *enter(1), *spawn(1, 2, 1), leave(1), done(2, "throw", 4), ask(0, "cancel", 1)]
        self.kept([*shielded, cancelled(1)])
        self.broken([*shielded, throw(1, 4)], 9)


class TwoRules(Audits):
    def test_the_least_one_is_told(self):
        self.broken([BEGIN, ask(0, "spawn", "f", []), start(5, 3)], 1)
        self.broken([*IN_SCOPE, ask(0, "spawn", "f", []), cancelled(0)], 2)
        self.broken([*WITH_TASK, leave(0), cancelled(0)], 4)
        self.broken([*WITH_TASK, leave(0, ("throw", 2)), value(0)], 4)
        self.broken([BEGIN, *enter(0, 0), *made(0, "sleep", 3)], 5)
        self.broken([*IN_SCOPE, ask(0, "now"), cancelled(0)], 5)
        self.broken([BEGIN, *enter(0, 0), *made(0, "receive", 0, what=3)], 7)
        self.broken([BEGIN, *enter(0, 0), ask(0, "await", 9), value(0)], 8)
        self.broken([BEGIN, *made(0, "acquire", 1), *enter(0, 0), *made(0, "acquire", 1)], 6)
        over = [BEGIN, *made(0, "open", 0, what=0), *made(0, "send", 0, 1)]
        self.broken([*over, leave(0)], 3)
        self.broken([*over, ask(0, "unveil")], 3)
        self.broken([*over, time(-3)], 5)
        self.broken([BEGIN, *made(0, "shield"), *made(0, "open", 0, what=0), *made(0, "send", 0, 1), done(0)], 3)

    def test_the_first_event_is_told(self):
        self.broken([BEGIN, leave(0), BEGIN, time(-1)], 3, 1)
        self.broken([BEGIN, time(2), time(1), start(9), done(7)], 5, 2)


class OtherReplies(Audits):
    def test_nothing_is_asked_of_them(self):
        for parts in (("yield",), ("emit", 3), ("cancel", 0), ("close", 3), ("shield",), ("enter", None, True),
                      ("acquire", 9), ("sleep", 0)):
            for reply in (value(0), value(0, 7), throw(0, 3)):
                self.kept([BEGIN, ask(0, *parts), reply])
        for parts in (("open", 3), ("send", 0, 1), ("receive", 0), ("sleep", 5), ("acquire", 0), ("enter", 3, False),
                      ("select", [("after", 3)], False)):
            self.kept([BEGIN, ask(0, *parts), throw(0, 44), *made(0, "yield"), done(0)])

    def test_an_enter_or_acquire_with_another_reply_makes_nothing(self):
        self.kept([BEGIN, ask(0, "enter", None, True), throw(0, 1), done(0)])
        self.kept([BEGIN, ask(0, "acquire", 1), throw(0, 1), *made(0, "acquire", 1), *made(0, "release", 1), done(0)])
        self.kept([BEGIN, ask(0, "enter", 0, True), throw(0, 1), *enter(0), *spawn(0, 1, 0)])


class Runs(Audits):
    def traces(self, many):
        for seed in range(many):
            maker = MeetingMaker(3000 + seed) if seed % 4 else ProgramMaker(seed)
            program = maker.program()
            world = World(program)
            world.run([maker.random.randrange(9) for _ in range(maker.random.choice([0, 9, 99]))], most=200)
            yield world.trace()

    def test_of_every_run(self):
        for events in self.traces(400):
            self.assertIsNone(audit(events))
            self.assertIsNone(told_audit(events))

    def test_of_each_beginning_of_a_run(self):
        for events in self.traces(12):
            for size in range(len(events) + 1):
                self.assertIsNone(audit(events[:size]))

    def test_changed_runs(self):
        """Lists of events that differ a little from those of runs, by the words of the document."""
        chance = random.Random(11)
        rules = {}
        for events in self.traces(260):
            for _ in range(12):
                changed = list(events)
                for _ in range(chance.choice([1, 1, 1, 2])):
                    changed = change(changed, chance) if changed else changed
                if not has_form(changed):
                    continue
                expected = told_audit(changed)
                self.assertEqual(audit(changed), expected, changed)
                rule = None if expected is None else expected[1]
                rules[rule] = rules.get(rule, 0) + 1
        self.assertEqual(set(rules), {None, *range(1, 11)}, rules)

    def test_a_list_without_a_broken_rule_that_ends_with_the_done_of_task_0(self):
        chance = random.Random(12)
        for events in self.traces(100):
            for _ in range(10):
                changed = change(list(events), chance)
                ends = [index for index, event in enumerate(changed) if event[:2] == ("done", 0)]
                if ends and has_form(changed) and audit(changed[:ends[0] + 1]) is None:
                    started = [event[1] for event in changed[:ends[0] + 1] if event[0] == "start"]
                    ended = [event[1] for event in changed[:ends[0] + 1] if event[0] == "done"]
                    self.assertEqual(sorted(started), sorted(ended))

    def test_the_events_stay(self):
        for events in self.traces(20):
            before = copy.deepcopy(events)
            audit(events)
            self.assertEqual(events, before)


def change(events, chance):
    """Return the events with one change: one left out, put in, moved, or with other numbers."""
    at = chance.randrange(len(events))
    kind = chance.randrange(7)
    if kind == 0:
        return [*events[:at], *events[at + 1:]]
    if kind == 1:
        return [*events[:at], chance.choice(events), *events[at:]]
    if kind == 2:
        other = min(len(events) - 1, at + chance.randrange(1, 4))
        events[at], events[other] = events[other], events[at]
        return events
    if kind == 3:
        event = chance.choice([("time", chance.randrange(9)), cancelled(chance.randrange(4)), done(chance.randrange(4)),
                               value(chance.randrange(4)), throw(chance.randrange(4), chance.randrange(-6, 3)),
                               ask(chance.randrange(4), "unveil"), leave(chance.randrange(4)),
                               ask(chance.randrange(4), "cancel", chance.randrange(5)),
                               ask(chance.randrange(4), "release", chance.randrange(5))])
        return [*events[:at], event, *events[at:]]
    replies = [index for index, event in enumerate(events) if event[0] == "reply"]
    if kind == 4 and replies:
        at = chance.choice(replies)
        word, asked = "", ()
        for event in events[:at]:
            if event[0] == "ask" and event[1] == events[at][1]:
                word, asked = event[2][0], event[2]
        task = events[at][1]
        told = (chance.randrange(-1, len(asked[1]) + 2), chance.choice([None, 1, 2])) if word == "select" else (
            chance.choice([None, 0, 1, 2]))
        events[at] = chance.choice([value(task, told), throw(task, chance.randrange(-6, 4)), cancelled(task)])
        return events
    events[at] = renumbered(events[at], chance)
    return events


def has_form(events):
    """Tell whether the value of each reply to a select is a tuple, and that of each other one is none."""
    asked = {}
    for event in events:
        if event[0] == "ask":
            asked[event[1]] = event[2][0]
        if event[0] == "reply" and event[2][0] == "value":
            if (asked.get(event[1]) == "select") != isinstance(event[2][1], tuple):
                return False
    return True


def renumbered(event, chance):
    """Return an event with another number at one place."""
    if event[0] == "time":
        return ("time", event[1] + chance.choice([-1, 1, 5]))
    if event[0] == "start":
        scope = chance.choice([event[4], None, 0, 1])
        return ("start", event[1] + chance.choice([0, 0, 1]), event[2], chance.choice([event[3], [], [1]]), scope)
    if event[0] == "ask" and len(event[2]) == 2 and isinstance(event[2][1], int):
        return ("ask", event[1], (event[2][0], event[2][1] + chance.choice([-1, 1, 3])))
    if event[0] == "ask" and event[2][0] == "enter":
        return ("ask", event[1], ("enter", chance.choice([None, 0, 1, 3]), chance.random() < 0.5))
    if event[0] == "ask" and event[2][0] == "leave":
        completion = chance.choice([NORMAL, CANCELLED, ("throw", 2), ("return", None)])
        return ("ask", event[1], ("leave", completion))
    if event[0] == "done":
        return ("done", event[1], chance.choice([("throw", 1), CANCELLED, ("return", 2), ("return", None)]))
    return (event[0], max(0, event[1] + chance.choice([-1, 1])), *event[2:])


if __name__ == "__main__":
    unittest.main()
