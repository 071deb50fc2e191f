"""What several tests need."""

import copy


def nested_lists(value):
    """Return every list that occurs in a value, one entry for each place."""
    found = [value] if isinstance(value, list) else []
    if isinstance(value, (list, tuple)):
        for part in value:
            found.extend(nested_lists(part))
    return found


def shared_lists(first, second):
    """Tell whether some list object occurs in both values."""
    known = {id(place) for place in nested_lists(first)}
    return any(id(place) in known for place in nested_lists(second))


def repeats_a_list(value):
    """Tell whether some list object occurs at two places of a value."""
    places = nested_lists(value)
    return len({id(place) for place in places}) != len(places)


def deep(sign, depth, leaf, other):
    """Return an expression of this depth that grows at its first part."""
    expression = leaf
    for _ in range(depth - 1):
        expression = (sign, expression, other)
    return expression


def sample_program():
    """Return a new valid program with all statements and arms of point 7."""
    helper = ("work", [("a", "int"), ("b", "bool"), ("c", "channel"), ("d", "task")], "int", [
        ("if", "b", [("return", ("+", "a", -1))], [("throw", 7)]),
    ])
    quiet = ("quiet", [], None, [("return", None)])
    main = ("main", [], None, [
        ("let", "x", 3),
        ("set", "x", ("*", "x", 2)),
        ("emit", "x"),
        ("while", False, [("yield",)]),
        ("open", "c", 2),
        ("scope", None, False, [
            ("spawn", "t", "quiet", []),
            ("await", "r", "t"),
            ("await", None, "t"),
            ("cancel", "t"),
            ("spawn", "u", "work", [1, True, "c", "t"]),
            ("call", "v", "work", [("-", "x", 1), ("not", False), "c", "u"]),
            ("call", None, "quiet", []),
        ]),
        ("scope", 5, True, [("shield", [("using", 0, [("sleep", 1)])])]),
        ("try", [("finally", [("throw", 1)], [("now", "n")])], "e", [("emit", "e")]),
        ("send", "c", 1),
        ("receive", "y", "c"),
        ("select", [
            ("send", "c", 4, [("emit", 4)]),
            ("receive", "z", "c", [("emit", "z")]),
            ("after", 2, []),
        ], [("close", "c")]),
        ("return", None),
    ])
    return [helper, quiet, main]


def unchanged_by(action, value):
    """Tell whether calling the action with the value leaves the value as it was."""
    before = copy.deepcopy(value)
    action(value)
    return before == value and repr(before) == repr(value)
