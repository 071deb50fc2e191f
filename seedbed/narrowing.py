"""Leaving out guards, or what they cover, where they take nothing (point 23)."""

from seedbed.covering import Covering
from seedbed.errors import BadCode
from seedbed.reach import UNFAILING, reached_in


def narrowed(instructions, guards):
    """Return the guards of a function, narrowed to the instructions at which they can take a completion."""
    taking = places_of(instructions, guards)
    narrow = [cut(guard, places) for guard, places in zip(guards, taking) if places]
    if is_executable(instructions, narrow):
        return narrow
    # Where a clean guard ends, those behind it must fit, too. No guard depends on one with the word catch.
    narrow = []
    for guard, places in zip(guards, taking):
        if guard[3] == "clean":
            narrow.append(guard)
        elif places:
            narrow.append(cut(guard, places))
    return narrow


def cut(guard, places):
    """Return a guard that covers what is needed to cover these places, which are in ascending order."""
    _, _, target, word, depth = guard
    return (places[0], places[-1] + 1, target, word, depth)


def is_executable(instructions, guards):
    """Tell whether a function with these instructions and guards is valid, if only their form is."""
    try:
        reached_in(instructions, guards)
    except BadCode:
        return False
    return True


def places_of(instructions, guards):
    """Return a list for each guard, of the indexes of the instructions at which it can take a completion."""
    covering = Covering(guards, len(instructions))
    takers = [takers_of(looked_at, guards) for looked_at in covering.looked_at]
    taking = [[] for _ in guards]
    for at, instruction in enumerate(instructions):
        throws, others = completions_at(instruction)
        thrown_to, others_to = takers[covering.stretches[at]]
        if throws and thrown_to is not None:
            taking[thrown_to].append(at)
        if others and others_to is not None and not (throws and thrown_to == others_to):
            taking[others_to].append(at)
    return taking


def takers_of(looked_at, guards):
    """Return which of the guards that are looked at takes a throw, and which one other completions; None if none."""
    if not looked_at:
        return None, None
    last = looked_at[-1]
    return looked_at[0], last if guards[last][3] == "clean" else None


def completions_at(instruction):
    """Tell whether a throw, and whether another completion can occur at an instruction."""
    match instruction:
        case ("ask", word, _, _):
            fails = word not in UNFAILING
            return fails, fails
        case ("complete", word):
            return word == "throw", word != "throw"
    fails = instruction[0] in ("spawn", "select", "enter", "call", "resume", "leave")
    return fails, fails
