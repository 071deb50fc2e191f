"""Making codes shorter (point 23).

A function is shortened in rounds, until a round changes nothing; so tidying the result once more
changes nothing either. No round changes with how many values and pending completions an
instruction is reached that it leaves, so the code stays valid.
"""

from seedbed.code import check_code
from seedbed.narrowing import narrowed
from seedbed.program import copied
from seedbed.reach import reached_in
from seedbed.reducing import reduced


def tidy_code(code):
    """Return a valid code that makes the same turns, with at most as many instructions in each function."""
    check_code(code)
    return [tidied(function) for function in copied(code)]


def tidied(function):
    """Return a function of a valid code, shortened as far as possible."""
    name, count, slots, instructions, guards = function
    before = None
    after = (instructions, guards)
    while after != before:
        before = after
        instructions, guards = after
        after = shortened(instructions, guards)
    return (name, count, slots, instructions, guards)


def shortened(instructions, guards):
    """Return the instructions and guards after one round."""
    straight = with_straight_jumps(instructions)
    reached = reached_in(straight, guards)
    keep = [at in reached for at in range(len(straight))]
    straight, guards = only(straight, guards, keep)
    fewer, keep = reduced(straight, guards)
    fewer, guards = only(fewer, guards, keep)
    return fewer, narrowed(fewer, guards)


def only(instructions, guards, keep):
    """Return the instructions and guards without the instructions that are not to be kept.

    keep is a list of True or False for each instruction. What led to one that is left out leads to
    the one behind it; guards are left out that cover nothing then, or whose target is left out.
    """
    places = [0]
    for kept in keep:
        places.append(places[-1] + (1 if kept else 0))
    left = [moved(instruction, places) for instruction, kept in zip(instructions, keep) if kept]
    covering = []
    for first, last, target, word, depth in guards:
        if keep[target] and places[first] < places[last]:
            covering.append((places[first], places[last], places[target], word, depth))
    return left, covering


def moved(instruction, places):
    """Return an instruction of which the target, if it has one, is at another place now."""
    if instruction[0] in ("jump", "branch"):
        return (instruction[0], places[instruction[1]])
    return instruction


def with_straight_jumps(instructions):
    """Return the instructions, in which jumps and branches lead to where they come through other jumps."""
    ends = ends_of_jumps(instructions)
    straight = []
    for instruction in instructions:
        if instruction[0] in ("jump", "branch") and ends.get(instruction[1]) is not None:
            straight.append((instruction[0], ends[instruction[1]]))
        else:
            straight.append(instruction)
    return straight


def ends_of_jumps(instructions):
    """Return a dict from the indexes of the jumps to where they lead, or to None if they lead into a circle."""
    ends = {}
    for start in range(len(instructions)):
        path = []
        at = start
        while at not in ends and at < len(instructions) and instructions[at][0] == "jump":
            ends[at] = None
            path.append(at)
            at = instructions[at][1]
        end = ends.get(at, at)
        for place in path:
            ends[place] = end
    return ends
