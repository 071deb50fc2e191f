"""Which guards of a function of a code are looked at, where a completion occurs (point 20)."""


class Covering:
    """The guards that are looked at in the stretches of a function between the ends of guards.

    stretches is a list of the stretch of each instruction, and looked_at one of the guards of each
    stretch, by their indexes: all that cover it, in order, up to the first one with the word clean.
    Functions with many guards would take long if these were found for each instruction anew.
    """

    def __init__(self, guards, size):
        ends = {0: True, size: True}
        for guard in guards:
            ends[guard[0]] = True
            ends[guard[1]] = True
        starts = sorted(ends)
        self.stretches = []
        self.looked_at = []
        for start, end in zip(starts, starts[1:]):
            self.stretches.extend([len(self.looked_at)] * (end - start))
            self.looked_at.append(guards_at(guards, start))


def guards_at(guards, at):
    """Return the indexes of the guards that are looked at for the instruction at an index."""
    found = []
    for index, guard in enumerate(guards):
        if guard[0] <= at < guard[1]:
            found.append(index)
            if guard[3] == "clean":
                return found
    return found
