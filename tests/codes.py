"""Codes for tests: one with all instructions, ones at the bounds of point 21, and random valid ones."""

import random

from helper import CodeRun
from seedbed.code import check_code
from seedbed.errors import BadCode

MOST = 1000000000
END = ("complete", "end")
YIELD = ("ask", "yield", 0, None)
SETTLE = ("settle",)
RESUME = ("resume",)
LEAVE = ("leave",)
EMIT = ("ask", "emit", 1, None)
COUNTS = {
    "yield": 0, "now": 0, "shield": 0, "unveil": 0, "sleep": 1, "emit": 1, "await": 1, "cancel": 1, "open": 1,
    "receive": 1, "close": 1, "acquire": 1, "release": 1, "send": 2,
}


def function(instructions, guards=(), count=0, slots=5, name="f"):
    return (name, count, slots, list(instructions), list(guards))


def full_code():
    """Return a new valid code with all words, and with numbers at the ends of their ranges."""
    asks = []
    for at, (word, count) in enumerate(COUNTS.items()):
        asks.extend([("push", value) for value in (MOST, -MOST)[:count]])
        asks.append(("ask", word, count, None if at % 2 else at))
    signs = []
    for sign in ("+", "-", "*", "<", "<=", "=", "and", "or"):
        signs.extend([("load", 0), ("load", 1), ("apply", sign), ("store", 2)])
    main = [
        *asks, *signs, ("push", True), ("apply", "not"), ("branch", 0), ("push", 0), ("push", False),
        ("spawn", "a23456789012", 2, 3), ("push", 127), ("push", 128), ("call", "a23456789012", 2, None),
        ("push", -1), ("enter", True, False), SETTLE, LEAVE, ("enter", False, True),
        ("push", 1), ("push", 2), ("push", 3), ("push", 4),
        ("select", [("send", None), ("receive", 399), ("after", None)], True), ("store", 399),
        ("push", 16384), ("select", [("after", 1)], False), ("complete", "throw"),
    ]
    last = len(main)
    main.extend([("catch", 0), SETTLE, RESUME, ("jump", last + 5), END])
    return [
        function([("load", 0), ("complete", "return"), END], count=2, slots=2, name="a23456789012"),
        function([], slots=0, name="push"),
        function(main, [(0, last, last, "catch", 0), (0, last + 4, last + 2, "clean", 0)], slots=400, name="main"),
    ]


def greatest_code():
    """Return a code with the most functions, params, slots, instructions and guards, and long names."""
    code = []
    for at in range(8):
        name = f"abcdefghijk{at}"
        instructions = [("push", MOST - at), ("push", -MOST), ("push", True), ("push", 0), ("spawn", name, 4, 399)]
        instructions.extend([*[YIELD] * 3992, END, ("catch", 398), END])
        guards = [(k, 3900 + k % 97, 3998, "catch", 0) for k in range(400)]
        code.append((name, 4, 400, instructions, guards))
    return code


def runs_long(code, name, args, replies, most=400):
    """Tell whether a code executes very many instructions without an ask."""
    run = CodeRun(code, name, args)
    run.most = most
    try:
        turn = run.resume()
        for reply in replies:
            if turn[0] == "done":
                return False
            run.most = most
            turn = run.resume(reply)
    except OverflowError:
        return True
    return False


def replies_to(code, name, args, maker, most=30):
    """Return random replies that fit the asks of a code, as long as it does not run long."""
    run = CodeRun(code, name, args)
    run.most = 400
    replies = []
    try:
        turn = run.resume()
        while turn[0] == "ask" and len(replies) < most:
            replies.append(maker.reply_to(turn[1], maker.random.random() < 0.7))
            run.most = 400
            turn = run.resume(replies[-1])
    except OverflowError:
        return replies[:-1]
    return replies


class CodeMaker:
    """Makes random valid codes: with jumps and guards of all kinds, also where nothing is reached."""

    def __init__(self, seed):
        self.random = random.Random(seed)

    def code(self):
        names = ["f", "g", "main"][:self.random.randrange(1, 4)]
        heads = [(name, self.random.randrange(0, 3)) for name in names]
        return [self.function(heads, at) for at in range(len(heads))]

    def function(self, heads, at):
        name, count = heads[at]
        while True:
            self.heads, self.earlier = heads, heads[:at]
            self.slots = count + self.random.randrange(1, 4)
            self.instructions, self.states = [], []
            self.write()
            self.aim()
            self.guards = []
            if self.is_valid(name, count):
                self.add_guards(name, count)
                return (name, count, self.slots, self.instructions, self.guards)

    def is_valid(self, name, count):
        # The other functions stand for themselves, so that each one is looked at alone.
        earlier = [(other, params, params, [], []) for other, params in self.earlier]
        later = [(other, params, params, [], []) for other, params in self.heads[len(earlier) + 1:]]
        try:
            check_code([*earlier, (name, count, self.slots, self.instructions, self.guards), *later])
        except BadCode:
            return False
        return True

    def write(self):
        """Write instructions, each with the state with which it is reached if it is reached."""
        state = (0, 0)
        for _ in range(self.random.randrange(0, 26)):
            instruction, after = self.step(*state)
            self.instructions.append(instruction)
            self.states.append(state)
            state = after
            if instruction[0] in ("jump", "complete"):
                state = (0, self.random.randrange(0, 3))
                if state[1] and self.random.random() < 0.5:
                    self.instructions.append(("catch", self.slot()))
                    self.states.append(state)
                    state = (0, state[1] - 1)

    def slot(self):
        return self.random.randrange(self.slots)

    def any_slot(self):
        return self.random.choice([None, self.slot(), self.slot()])

    def step(self, height, pending):
        """Return an instruction that can be executed in this state, and the state after it."""
        pick = self.random.randrange(22)
        if height > 5 or pick < 2 and height:
            return ("store", self.slot()), (height - 1, pending)
        if pick < 4:
            return ("push", self.random.choice([0, 1, 2, 7, True, False])), (height + 1, pending)
        if pick < 6:
            return ("load", self.slot()), (height + 1, pending)
        if pick == 6 and height:
            return ("apply", "not"), (height, pending)
        if pick in (7, 8) and height > 1:
            return ("apply", self.random.choice(["+", "-", "*", "<", "<=", "=", "and", "or"])), (height - 1, pending)
        if pick in (9, 10):
            return ("jump", None), None
        if pick in (11, 12) and height:
            return ("branch", None), (height - 1, pending)
        if pick == 13 and pending:
            return self.random.choice([RESUME, LEAVE]), (height, pending - 1)
        if pick == 14 and pending < 3:
            return SETTLE, (height, pending + 1)
        if pick == 15:
            word = self.random.choice(["end", "return", "throw"] if height else ["end"])
            return ("complete", word), None
        if pick == 16:
            return self.named(height, pending)
        if pick == 17 and height > 2:
            shape = [(word, self.any_slot()) for word in self.random.choice([["send", "after"], ["receive"], ["send"]])]
            taken = sum(2 if item[0] == "send" else 1 for item in shape)
            return ("select", shape, self.random.random() < 0.5), (height - taken + 1, pending)
        if pick == 18:
            timed = height > 0 and self.random.random() < 0.5
            return ("enter", timed, self.random.random() < 0.5), (height - timed, pending)
        words = [word for word in COUNTS if COUNTS[word] <= height]
        word = self.random.choice(words)
        return ("ask", word, COUNTS[word], self.any_slot()), (height - COUNTS[word], pending)

    def named(self, height, pending):
        fitting = [("spawn", *head) for head in self.heads] + [("call", *head) for head in self.earlier]
        fitting = [entry for entry in fitting if entry[2] <= height]
        if not fitting:
            return YIELD, (height, pending)
        word, name, count = self.random.choice(fitting)
        return (word, name, count, self.any_slot()), (height - count, pending)

    def aim(self):
        """Give targets to the jumps and branches, of the states in which they are reached."""
        size = len(self.instructions)
        for at, instruction in enumerate(self.instructions):
            if instruction[0] in ("jump", "branch"):
                height, pending = self.states[at]
                wanted = (height - (instruction[0] == "branch"), pending)
                places = [k for k in range(size) if self.states[k] == wanted and self.instructions[k][0] != "catch"]
                near = [k for k in places if self.instructions[k][0] == "jump" or k == at + 1]
                places = near if near and self.random.random() < 0.5 else places
                target = self.random.choice([*places, *places, size])
                self.instructions[at] = (instruction[0], target)

    def add_guards(self, name, count):
        """Add guards, each one at any place among the others, as far as the code is valid with them."""
        size = len(self.instructions)
        targets = [k for k in range(size) if self.states[k][0] == 0 and self.states[k][1] > 0]
        if not targets:
            return
        for _ in range(self.random.randrange(0, 12)):
            target = self.random.choice(targets)
            first = self.random.randrange(size)
            last = self.random.randrange(first + 1, size + 1)
            word = "catch" if self.instructions[target][0] == "catch" else "clean"
            guard = (first, last, target, word, self.states[target][1] - 1)
            before = list(self.guards)
            self.guards.insert(self.random.randrange(len(before) + 1), guard)
            if not self.is_valid(name, count):
                self.guards = before
