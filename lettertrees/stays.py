"""What a call does in one go at a place, told apart from any tree.

A spot is what a place is for a call: (root, ends, others). A row is what is there: (mark, flag, next), next telling
whether the next child is there. A call comes with (x, y, p): its variables, and a word for the place that it keeps:
"none", "here", or any other word for a place elsewhere. A how tells how it is behind a step:
- ("down", x, y, p): it goes to the next child; ("up", x, y, p): it goes to the parent.
- ("end", answer): it has ended; an answer that is a place is told by its word.
- ("cut", answer, p): it has ended so but for its last step, the cut at p.
- ("misuse", kind): it has ended so.
"""

from lettertrees.doing import GO_DOWN, STOP, come_down, do_block

BOOLS = (False, True)
NO_ENTRY = (False, False, False)


def entries_of(routine):
    """The list of all entries (x, y, kept) of a routine, ascending."""
    names = routine.names()
    xs, ys, ps = [BOOLS if name in names else (False,) for name in ("x", "y", "p")]
    return [(x, y, kept) for x in xs for y in ys for kept in ps]


def entry_of(how):
    """The entry into the rest behind of a call that goes down so."""
    _, x, y, p = how
    return x, y, p != "none"


def own_of(entry):
    """What a call comes with to the first place of a rest that it goes down into with this entry."""
    x, y, kept = entry
    return x, y, "above" if kept else "none"


def answer_word(answer, p):
    """The word for the answer of a return."""
    if answer == "node":
        return "here"
    return p if answer == "p" else answer


def cut_here(how, row):
    """The how and the row behind the cut of a call whose last step is a cut here; otherwise as they are."""
    if how[0] != "cut" or how[2] != "here":
        return how, row
    mark, flag, follows = row
    return ("end", how[1]) if follows else ("misuse", "none"), (mark, flag, False)


def named_in(how):
    """How a call is behind a rest, its first place being told as any place in the rest."""
    told = how[:2] if how[0] == "cut" else how
    return tuple(["in" if part == "here" else part for part in told])


class Stays:
    """The stays of calls of a routine; what was done once is kept, for there are few ways in which a place is met."""

    def __init__(self, routine):
        self.routine = routine
        self.known = {}

    def step(self, way, spot, row, own):
        """How the call is behind a step "down" or "up", and the row that it leaves."""
        key = (way, spot, row, own)
        if key not in self.known:
            self.known[key] = self.step_anew(way, spot, row, own)
        return self.known[key]

    def step_anew(self, way, spot, row, own):
        root, ends, others = spot
        mark, flag, follows = row
        x, y, p = own
        facts = {
            "mark": mark, "f": flag, "x": x, "y": y, "root": root, "ends": ends, "next": follows, "others": others,
            "p": p != "none", "here": p == "here", "true": True,
        }
        ending = come_down(self.routine, facts) if way == "down" else do_block(self.routine.up, facts)
        kept = "here" if facts["here"] else p
        return self.how_left(ending, facts, kept), (facts["mark"], facts["f"], facts["next"])

    def how_left(self, ending, facts, p):
        """How the call is behind this ending."""
        if ending == GO_DOWN:
            return "down", facts["x"], facts["y"], p
        if ending is None and self.routine.up:
            return "up", facts["x"], facts["y"], p
        if ending is None or ending == STOP:
            return "end", "none"
        if ending[0] == "misuse":
            return ending
        answer = answer_word(ending[1], p)
        if len(ending) == 2:
            return "end", answer
        return ("misuse", "p") if p == "none" else ("cut", answer, p)

    def rise(self, spot, row, gone, told):
        """How the call is that went down from here with the how gone, and the row that it leaves.

        told is how it comes out of the rest behind; "above" in it is the place that it kept when it went.
        """
        p = gone[3]
        if told[0] == "up":
            return self.step("up", spot, row, (told[1], told[2], p if told[3] == "above" else told[3]))
        if told[0] == "misuse":
            return told, row
        answer = p if told[1] == "above" else told[1]
        return ("end", answer) if told[0] == "end" else ("cut", answer, p), row

    def visit(self, spot, row, entry, below):
        """What a call does at a place and in the rest behind: (how, row, flags); None if it does not come up.

        below is None if the call does not go down from here, otherwise a pair: the entry with which it goes, and how
        it comes out of the rest. flags are the place's flags as its steps there begin. p is told as from the rest.
        """
        how, left = self.step("down", spot, row, own_of(entry))
        flags = (row[1],)
        if how[0] != "down":
            if below is not None:
                return None
        elif below is None or entry_of(how) != below[0]:
            return None
        else:
            if below[1][0] == "up":
                flags = flags + (left[1],)
            how, left = self.rise(spot, left, how, below[1])
        if how[0] == "cut" and how[2] == "here":
            flags = flags + (left[1],)
        told, left = cut_here(how, left)
        return told, left, flags
