"""What several tests need."""

import copy
import random

from seedbed.notation import format_program
from seedbed.program import value_of

RESERVED = """int bool channel task none true false not and or func let set emit if else while return throw try catch
finally scope watch shield using spawn await cancel open send receive close sleep yield now call select after default
end""".split()


def nested_lists(value):
    """Return every list that occurs in a value, one entry for each place."""
    found = [value] if isinstance(value, list) else []
    if isinstance(value, (list, tuple)):
        for part in value:
            found.extend(nested_lists(part))
    return found


def shared_lists(first, second):
    """Tell whether some list object occurs in both values."""
    known = {id(place) for place in nested_lists(first)}
    return any(id(place) in known for place in nested_lists(second))


def repeats_a_list(value):
    """Tell whether some list object occurs at two places of a value."""
    places = nested_lists(value)
    return len({id(place) for place in places}) != len(places)


def deep(sign, depth, leaf, other):
    """Return an expression of this depth that grows at its first part."""
    expression = leaf
    for _ in range(depth - 1):
        expression = (sign, expression, other)
    return expression


def sample_program():
    """Return a new valid program with all statements and arms of point 7."""
    helper = ("work", [("a", "int"), ("b", "bool"), ("c", "channel"), ("d", "task")], "int", [
        ("if", "b", [("return", ("+", "a", -1))], [("throw", 7)]),
    ])
    quiet = ("quiet", [], None, [("return", None)])
    main = ("main", [], None, [
        ("let", "x", 3),
        ("set", "x", ("*", "x", 2)),
        ("emit", "x"),
        ("while", False, [("yield",)]),
        ("open", "c", 2),
        ("scope", None, False, [
            ("spawn", "t", "quiet", []),
            ("await", "r", "t"),
            ("await", None, "t"),
            ("cancel", "t"),
            ("spawn", "u", "work", [1, True, "c", "t"]),
            ("call", "v", "work", [("-", "x", 1), ("not", False), "c", "u"]),
            ("call", None, "quiet", []),
        ]),
        ("scope", 5, True, [("shield", [("using", 0, [("sleep", 1)])])]),
        ("try", [("finally", [("throw", 1)], [("now", "n")])], "e", [("emit", "e")]),
        ("send", "c", 1),
        ("receive", "y", "c"),
        ("select", [
            ("send", "c", 4, [("emit", 4)]),
            ("receive", "z", "c", [("emit", "z")]),
            ("after", 2, []),
        ], [("close", "c")]),
        ("return", None),
    ])
    return [helper, quiet, main]


def unchanged_by(action, value):
    """Tell whether calling the action with the value leaves the value as it was."""
    before = copy.deepcopy(value)
    action(value)
    return before == value and repr(before) == repr(value)


def main_with(body):
    """Return the program of which main has this body."""
    return [("main", [], None, body)]


def deep_list(depth):
    value = []
    for _ in range(depth):
        value = [value]
    return value


def deep_tuple(depth):
    value = ()
    for _ in range(depth):
        value = ("not", value)
    return value


ODD_VALUES = [
    None, True, False, 0, 1, -1, 10 ** 5000, -10 ** 5000, "", "main", "x", "emit", "int", "\n", "\ud800", "x" * 100000,
    (), [], ("main",), ["main"], ("yield",), ["yield"], [("yield",)], [[]], [()], ((),), ((), ()), [None], [0], ["x"],
    ("main", [], None), ("main", [], None, []), ["main", [], None, []], (0, 1, 2, 3), [0, 1, 2, 3], ("not", True),
    deep_list(3000), deep_tuple(3000), [deep_list(100000)], (deep_tuple(100000),), ["x"] * 10000, ("x",) * 10000,
]


def paths(value, path=()):
    """Go through the paths to all parts of a value."""
    yield list(path)
    if isinstance(value, (list, tuple)):
        for index, part in enumerate(value):
            yield from paths(part, (*path, index))


def part_at(value, path):
    for index in path:
        value = value[index]
    return value


def replaced(value, path, new):
    """Return the value with another part at the end of the path."""
    if not path:
        return new
    parts = list(value)
    parts[path[0]] = replaced(parts[path[0]], path[1:], new)
    return parts if isinstance(value, list) else tuple(parts)


# Each wraps a body as one inner body; all inner bodies of all statements occur.
WRAPS = {
    "if": lambda b: ("if", True, b, []),
    "else": lambda b: ("if", True, [], b),
    "while": lambda b: ("while", True, b),
    "try": lambda b: ("try", b, "e9", []),
    "catch": lambda b: ("try", [], "e9", b),
    "finally body": lambda b: ("finally", b, []),
    "finally": lambda b: ("finally", [], b),
    "scope": lambda b: ("scope", None, False, b),
    "shield": lambda b: ("shield", b),
    "using": lambda b: ("using", 1, b),
    "arm": lambda b: ("select", [("after", 1, []), ("after", 1, b)], None),
    "default": lambda b: ("select", [("after", 1, [])], b),
}


def balanced(count, leaf):
    """Return an expression that counts as so many, an odd number, and is as flat as possible."""
    if count == 1:
        return leaf
    first = (count - 1) // 4 * 2 + 1
    return ("and", balanced(first, leaf), balanced(count - 1 - first, leaf))


def long_program(cuts):
    """Return a program with a written form of more than 20000 characters, less the sum of the cuts in names."""
    names = ["e23456789012"[:12 - cut] for cut in [*cuts, *[0] * (152 - len(cuts))]]
    leaf = "a23456789012"
    args = [balanced(count, leaf) for count in (255, 255, 255, 233)]
    inner = [("call", None, "f23456789016", args), *[("try", [], name, []) for name in names]]
    for _ in range(6):
        inner = [("try", inner, "e23456789012", [])]
    params = [[(f"b2345678901{k}", kind) for k in range(4)] for kind in ["channel"] * 6 + ["bool"]]
    functions = [(f"f2345678901{k}", params[k], None, []) for k in range(7)]
    return [*functions, ("main", [], None, [("let", leaf, True), *inner])]


def program_of_length(length):
    """Return a program that keeps all other bounds and has a written form of this length."""
    excess = len(format_program(long_program([]))) - length
    cuts = [11] * (excess // 11) + [excess % 11]
    return long_program(cuts)


SIGN_KINDS = {
    "+": ("int", "int"), "-": ("int", "int"), "*": ("int", "int"), "<": ("int", "bool"), "<=": ("int", "bool"),
    "=": ("int", "bool"), "and": ("bool", "bool"), "or": ("bool", "bool"), "not": ("bool", "bool"),
}


class ProgramMaker:
    """Makes valid programs, with all statements in all places; the same ones for the same number."""

    def __init__(self, seed):
        self.random = random.Random(seed)

    def program(self):
        self.room = 70
        self.names = 0
        self.functions = []
        program = []
        many = self.random.randrange(1, 5)
        heads = [("main", [], None)]
        for at in range(many - 1):
            kinds = [self.random.choice(["int", "bool", "channel", "task"]) for _ in range(self.random.randrange(4))]
            params = [(f"p{k}", kind) for k, kind in enumerate(kinds)]
            heads.append((f"f{at}", params, self.random.choice(["int", None])))
        self.random.shuffle(heads)
        for at, (name, params, result) in enumerate(heads):
            self.spawned, self.called, self.result = heads, heads[:at], result
            visible = dict(params)
            body = self.body(visible, 1, False)
            if result == "int":
                body.extend(self.ending(visible))
            program.append((name, list(params), result, body))
        return program

    def ending(self, visible):
        value = self.expression("int", visible, 3)
        return self.random.choice([
            [("return", value)],
            [("throw", value)],
            [("if", True, [("return", value)], [("throw", 1)])],
            [("finally", [("return", value)], [("yield",)])],
            [("try", [("throw", value)], "last", [("return", "last")])],
            [("scope", None, False, [("return", value)])],
            [("scope", 3, True, [("shield", [("using", 2, [("return", value)])])])],
        ])

    def new_name(self):
        self.names += 1
        return f"v{self.names}"

    def expression(self, kind, visible, depth):
        names = [name for name in visible if visible[name] == kind]
        pick = self.random.randrange(4)
        if names and pick < 2 or kind in ("channel", "task"):
            return self.random.choice(names)
        if depth == 1 or pick == 2:
            return self.random.randrange(-3, 9) if kind == "int" else self.random.random() < 0.6
        sign = self.random.choice([sign for sign in SIGN_KINDS if SIGN_KINDS[sign][1] == kind])
        count = 1 if sign == "not" else 2
        return (sign, *[self.expression(SIGN_KINDS[sign][0], visible, depth - 1) for _ in range(count)])

    def body(self, visible, depth, scoped):
        inner = dict(visible)
        body = []
        for _ in range(self.random.randrange(0, 6 if depth < 4 else 3)):
            if self.room > 0:
                self.room -= 1
                body.append(self.statement(inner, depth, scoped))
        return body

    def statement(self, visible, depth, scoped):
        kinds = set(visible.values())
        words = ["let", "set", "emit", "throw", "open", "sleep", "yield", "now", "return"]
        words.extend(["await", "cancel"] if "task" in kinds else [])
        words.extend(["send", "receive", "close"] * 2 if "channel" in kinds else [])
        words.extend(["call"] * 2 if self.able(self.called, visible) else [])
        words.extend(["spawn"] * 2 if scoped and self.able(self.spawned, visible) else [])
        if depth < 7:
            words.extend(["if", "while", "try", "finally", "scope", "shield", "using", "select"] * 2)
        word = self.random.choice(words)
        return getattr(self, "make_" + word, self.make_plain)(word, visible, depth, scoped)

    def able(self, heads, visible):
        kinds = set(visible.values())
        return [head for head in heads if {kind for _, kind in head[1]} <= kinds | {"int", "bool"}]

    def of(self, kind, visible):
        return self.expression(kind, visible, self.random.randrange(1, 5))

    def make_plain(self, word, visible, depth, scoped):
        kinds = {
            "emit": ["int"], "throw": ["int"], "sleep": ["int"], "yield": [], "cancel": ["task"],
            "send": ["channel", "int"], "close": ["channel"], "now": [], "open": ["int"],
            "receive": ["channel"], "await": ["task"],
        }
        parts = [self.of(kind, visible) for kind in kinds[word]]
        if word not in ("now", "open", "receive", "await"):
            return (word, *parts)
        name = self.new_name()
        if word == "await" and self.random.random() < 0.4:
            return (word, None, *parts)
        visible[name] = "channel" if word == "open" else "int"
        return (word, name, *parts)

    def make_let(self, word, visible, depth, scoped):
        kind = self.random.choice(["int", "bool", *visible.values()])
        value = self.of(kind, visible)
        name = self.new_name()
        visible[name] = kind
        return ("let", name, value)

    def make_set(self, word, visible, depth, scoped):
        if not visible:
            return ("yield",)
        name = self.random.choice(list(visible))
        return ("set", name, self.of(visible[name], visible))

    def make_return(self, word, visible, depth, scoped):
        if self.random.random() < 0.5:
            return ("emit", self.of("int", visible))
        return ("return", None if self.result is None else self.of("int", visible))

    def make_call(self, word, visible, depth, scoped):
        name, params, result = self.random.choice(self.able(self.called, visible))
        passed = [self.of(kind, visible) for _, kind in params]
        if result is None or self.random.random() < 0.3:
            return ("call", None, name, passed)
        variable = self.new_name()
        visible[variable] = "int"
        return ("call", variable, name, passed)

    def make_spawn(self, word, visible, depth, scoped):
        name, params, _ = self.random.choice(self.able(self.spawned, visible))
        passed = [self.of(kind, visible) for _, kind in params]
        variable = self.new_name()
        visible[variable] = "task"
        return ("spawn", variable, name, passed)

    def make_if(self, word, visible, depth, scoped):
        condition = self.of("bool", visible)
        return ("if", condition, self.body(visible, depth + 1, scoped), self.body(visible, depth + 1, scoped))

    def make_while(self, word, visible, depth, scoped):
        return ("while", self.of("bool", visible), self.body(visible, depth + 1, scoped))

    def make_try(self, word, visible, depth, scoped):
        body = self.body(visible, depth + 1, scoped)
        name = self.new_name()
        return ("try", body, name, self.body({**visible, name: "int"}, depth + 1, scoped))

    def make_finally(self, word, visible, depth, scoped):
        return ("finally", self.body(visible, depth + 1, scoped), self.body(visible, depth + 1, scoped))

    def make_scope(self, word, visible, depth, scoped):
        time = self.random.choice([None, self.of("int", visible)])
        return ("scope", time, self.random.random() < 0.5, self.body(visible, depth + 1, True))

    def make_shield(self, word, visible, depth, scoped):
        return ("shield", self.body(visible, depth + 1, scoped))

    def make_using(self, word, visible, depth, scoped):
        return ("using", self.of("int", visible), self.body(visible, depth + 1, scoped))

    def make_select(self, word, visible, depth, scoped):
        arms = []
        for _ in range(self.random.randrange(1, 5)):
            words = ["after", "send", "receive"] if "channel" in visible.values() else ["after"]
            arms.append(self.arm(self.random.choice(words), visible, depth, scoped))
        default = self.body(visible, depth + 1, scoped) if self.random.random() < 0.5 else None
        return ("select", arms, default)

    def arm(self, word, visible, depth, scoped):
        self.room -= 1
        if word == "after":
            return ("after", self.of("int", visible), self.body(visible, depth + 1, scoped))
        channel = self.of("channel", visible)
        if word == "send":
            return ("send", channel, self.of("int", visible), self.body(visible, depth + 1, scoped))
        name = self.new_name()
        return ("receive", name, channel, self.body({**visible, name: "int"}, depth + 1, scoped))

    def args_for(self, params):
        """Return values of the kinds of the params."""
        return [self.random.random() < 0.5 if kind == "bool" else self.random.randrange(9) for _, kind in params]

    def reply_to(self, ask, friendly):
        """Return a reply that fits an ask; in a friendly one, failures are rare."""
        pick = self.random.random()
        if pick < (0.03 if friendly else 0.15):
            return ("throw", self.random.randrange(-6, 30))
        if pick < (0.05 if friendly else 0.25):
            return ("cancelled",)
        number = self.random.choice([None, 0, 1, 2, 5, -4, 10 ** 9, 10 ** 12, -(10 ** 15)])
        if ask[0] != "select":
            return ("value", number)
        return ("value", (self.random.randrange(len(ask[1]) + (1 if ask[2] else 0)), number))

    def replies_for(self, coroutine, most, friendly):
        """Resume a coroutine until it is done or has had so many replies; return the replies."""
        replies = []
        turn = coroutine.resume()
        while turn[0] == "ask" and len(replies) < most:
            replies.append(self.reply_to(turn[1], friendly))
            turn = coroutine.resume(replies[-1])
        return replies


class Told:
    """A coroutine by the words of points 16 and 17, by nested generators; resume does not look for refusals."""

    def __init__(self, program, name, args):
        self.program = program
        self.asks = self.outcome(name, args)

    def resume(self, reply=None):
        try:
            return ("ask", self.asks.send(reply))
        except StopIteration as stop:
            return ("done", stop.value)

    def outcome(self, name, args):
        _, params, _, body = [function for function in self.program if function[0] == name][0]
        completion = yield from self.body(body, {param: value for (param, _), value in zip(params, args)})
        return ("return", None) if completion == ("normal",) else completion

    def body(self, body, values):
        for statement in body:
            completion = yield from self.statement(statement, values)
            if completion != ("normal",):
                return completion
        return ("normal",)

    def given(self, ask, name, values):
        reply = yield ask
        if reply[0] != "value":
            return reply
        if name is not None:
            values[name] = 0 if reply[1] is None else reply[1]
        return ("normal",)

    def statement(self, statement, values):
        word, *parts = statement
        if word in ("let", "set"):
            values[parts[0]] = value_of(parts[1], values)
            return ("normal",)
        if word == "if":
            return (yield from self.body(parts[1] if value_of(parts[0], values) else parts[2], values))
        if word == "while":
            while value_of(parts[0], values):
                completion = yield from self.given(("yield",), None, values)
                if completion == ("normal",):
                    completion = yield from self.body(parts[1], values)
                if completion != ("normal",):
                    return completion
            return ("normal",)
        if word in ("return", "throw"):
            return (word, None if parts[0] is None else value_of(parts[0], values))
        if word in ("emit", "cancel", "send", "close", "sleep", "yield"):
            return (yield from self.given((word, *[value_of(part, values) for part in parts]), None, values))
        if word in ("await", "open", "receive", "now"):
            ask = (word, *[value_of(part, values) for part in parts[1:]])
            return (yield from self.given(ask, parts[0], values))
        if word == "spawn":
            passed = [value_of(part, values) for part in parts[2]]
            return (yield from self.given(("spawn", parts[1], passed), parts[0], values))
        return (yield from getattr(self, "do_" + word)(values, *parts))

    def do_call(self, values, name, called, args):
        completion = yield from self.outcome(called, [value_of(part, values) for part in args])
        if completion[0] != "return":
            return completion
        if name is not None:
            values[name] = 0 if completion[1] is None else completion[1]
        return ("normal",)

    def do_try(self, values, body, name, handler):
        completion = yield from self.body(body, values)
        if completion[0] != "throw":
            return completion
        values[name] = completion[1]
        return (yield from self.body(handler, values))

    def do_finally(self, values, body, cleanup):
        first = yield from self.body(body, values)
        yield ("shield",)
        second = yield from self.body(cleanup, values)
        yield ("unveil",)
        return first if second == ("normal",) else second

    def do_scope(self, values, time, watched, body):
        reply = yield ("enter", None if time is None else value_of(time, values), watched)
        if reply[0] != "value":
            return reply
        completion = yield from self.body(body, values)
        reply = yield ("leave", completion)
        if reply[0] != "value":
            return reply
        return ("normal",) if completion[0] in ("throw", "cancelled") else completion

    def do_shield(self, values, body):
        yield ("shield",)
        completion = yield from self.body(body, values)
        yield ("unveil",)
        return completion

    def do_using(self, values, expression, body):
        number = value_of(expression, values)
        reply = yield ("acquire", number)
        if reply[0] != "value":
            return reply
        completion = yield from self.body(body, values)
        yield ("release", number)
        return completion

    def do_select(self, values, arms, default):
        asked = []
        for arm in arms:
            expressions = arm[2:-1] if arm[0] == "receive" else arm[1:-1]
            asked.append((arm[0], *[value_of(part, values) for part in expressions]))
        reply = yield ("select", asked, default is not None)
        if reply[0] != "value":
            return reply
        index, number = reply[1]
        if index == len(arms):
            return (yield from self.body(default, values))
        if arms[index][0] == "receive":
            values[arms[index][1]] = 0 if number is None else number
        return (yield from self.body(arms[index][-1], values))


class CodeRun:
    """A coroutine of a code by the words of points 19 and 20; resume does not look for refusals."""

    def __init__(self, code, name, args):
        self.functions = {function[0]: function for function in code}
        self.frames = []
        self.push_frame(name, args)
        self.asked = None
        self.most = None

    def push_frame(self, name, args):
        _, _, slots, instructions, guards = self.functions[name]
        self.frames.append({
            "at": 0, "slots": [*args, *[0] * (slots - len(args))], "stack": [], "pending": [],
            "instructions": instructions, "guards": guards,
        })

    def resume(self, reply=None):
        if reply is not None:
            self.take(reply)
        while self.frames:
            frame = self.frames[-1]
            if frame["at"] == len(frame["instructions"]):
                self.end_frame(("return", None))
                continue
            ask = self.step(frame, frame["instructions"][frame["at"]])
            if ask is not None:
                return ("ask", ask)
            self.count_step()
        return ("done", self.outcome)

    def count_step(self):
        """Raise OverflowError if there is a bound for the number of instructions, and it is reached."""
        if self.most is not None:
            self.most -= 1
            if self.most < 0:
                raise OverflowError("too many instructions without an ask")

    def store(self, slot, value):
        if slot is not None:
            self.frames[-1]["slots"][slot] = 0 if value is None else value

    def pop(self, frame, count):
        values = frame["stack"][len(frame["stack"]) - count:]
        assert len(values) == count, "too few values"
        del frame["stack"][len(frame["stack"]) - count:]
        return values

    def step(self, frame, instruction):
        word, *parts = instruction
        if word in ("ask", "spawn", "select", "enter", "leave"):
            return getattr(self, "ask_" + word)(frame, *parts)
        frame["at"] += 1
        if word == "push":
            frame["stack"].append(parts[0])
        elif word == "load":
            frame["stack"].append(frame["slots"][parts[0]])
        elif word == "store":
            frame["slots"][parts[0]] = self.pop(frame, 1)[0]
        elif word == "apply":
            values = self.pop(frame, 1 if parts[0] == "not" else 2)
            frame["stack"].append(value_of((parts[0], *values), {}))
        elif word == "jump":
            frame["at"] = parts[0]
        elif word == "branch":
            frame["at"] = frame["at"] if self.pop(frame, 1)[0] else parts[0]
        elif word == "settle":
            frame["pending"].append(("normal",))
        elif word == "catch":
            self.store(parts[0], frame["pending"].pop()[1])
        elif word == "call":
            passed = self.pop(frame, parts[1])
            frame["at"] -= 1
            self.push_frame(parts[0], passed)
        elif word == "resume":
            frame["at"] -= 1
            self.occur(frame["pending"].pop())
        elif word == "complete":
            frame["at"] -= 1
            self.occur(("return", None) if parts[0] == "end" else (parts[0], self.pop(frame, 1)[0]))
        else:
            raise AssertionError(f"unknown instruction {word}")
        return None

    def ask_ask(self, frame, word, count, slot):
        return (word, *self.pop(frame, count))

    def ask_spawn(self, frame, name, count, slot):
        return ("spawn", name, self.pop(frame, count))

    def ask_enter(self, frame, timed, watched):
        return ("enter", self.pop(frame, 1)[0] if timed else None, watched)

    def ask_leave(self, frame):
        self.asked = frame["pending"].pop()
        return ("leave", self.asked)

    def ask_select(self, frame, shape, has_default):
        arms = []
        for word, _ in reversed(shape):
            arms.insert(0, (word, *self.pop(frame, 2 if word == "send" else 1)))
        return ("select", arms, has_default)

    def take(self, reply):
        frame = self.frames[-1]
        instruction = frame["instructions"][frame["at"]]
        if instruction[0] == "ask" and instruction[1] in ("shield", "unveil", "release"):
            if reply[0] == "value":
                self.store(instruction[3], reply[1])
            frame["at"] += 1
        elif reply[0] != "value":
            self.occur(reply)
        elif instruction[0] == "leave":
            self.occur(("normal",) if self.asked[0] in ("throw", "cancelled") else self.asked)
        else:
            self.take_value(frame, instruction, reply[1])
            frame["at"] += 1

    def take_value(self, frame, instruction, value):
        if instruction[0] in ("ask", "spawn"):
            self.store(instruction[3], value)
        elif instruction[0] == "select":
            index, number = value
            if index < len(instruction[1]):
                self.store(instruction[1][index][1], number)
            frame["stack"].append(index)

    def occur(self, completion):
        """Let a completion occur at the instruction of the last frame."""
        frame = self.frames[-1]
        if completion == ("normal",):
            frame["at"] += 1
            return
        for first, last, target, word, depth in frame["guards"]:
            if first <= frame["at"] < last and (word == "clean" or completion[0] == "throw"):
                assert len(frame["pending"]) >= depth, "too few pending completions"
                frame["stack"].clear()
                del frame["pending"][depth:]
                frame["pending"].append(completion)
                frame["at"] = target
                return
        self.end_frame(completion)

    def end_frame(self, completion):
        self.frames.pop()
        if not self.frames:
            self.outcome = completion
        elif completion[0] == "return":
            caller = self.frames[-1]
            self.store(caller["instructions"][caller["at"]][3], completion[1])
            caller["at"] += 1
        else:
            self.occur(completion)
