"""Two calls, or one, at one place: all orders in which their steps there may be done.

How a call goes on in the rest behind is given: its run is None if it does not go down from here, otherwise a pair of
the entry and of how it comes out: ("up", x, y, p), where p is "none", "above" or "in", or ("end", answer), or ("cut",
answer) with a cut at p above to come, where the answer is "yes", "no", or "bad" for any other one and for a misuse.

A child that was cut off may be made once more, as another place. So the next child of a call is 0 (none), 1 (the one
that is there first, or is made first) or 2 (the one that is made anew).
"""

from lettertrees.stays import entry_of, named_in, own_of

AHEAD = ("ahead",)


def told_above(how):
    """How a call is behind its last step at a place, as a run tells it."""
    if how[0] == "up":
        return named_in(how)
    if how[0] == "misuse":
        return "end", "bad"
    return how[0], how[1] if how[1] in ("yes", "no") else "bad"


def is_bad(run):
    """Whether a call that runs so does what no wish here asks for."""
    return run is not None and run[1][1] == "bad"


class Scene:
    """One place, the ways on from it, and what calls do behind.

    place is (root, mark, flag, others). For both calls goes tells whether letters are left, there whether the next
    child is there at first, entries with what they come (None if they do not come here), runs how they run behind; same
    tells whether it is the same child for both. anew is the number of the call, 0 or 1, that runs in a child that is
    made anew, None if none does.
    """

    def __init__(self, stays, place, goes, same, there, entries, runs, anew):
        self.stays = stays
        self.root, self.mark, self.flag, self.others = place
        self.goes = goes
        self.same = same
        self.there = there
        self.entries = entries
        self.runs = runs
        self.anew = anew
        self.found = []

    def all_orders(self):
        """All (order, hows, (mark, flag, children)): orders of steps, and how all is behind them."""
        children = tuple([1 if there else 0 for there in self.there])
        phases = tuple([("done", None) if entry is None else AHEAD for entry in self.entries])
        self.go_on("", (self.mark, self.flag), (children, self.there), phases)
        return self.found

    def go_on(self, order, row, below, phases):
        """Do the next step of either call. below tells the children as they are, and whether there have been any."""
        if phases[0][0] == "done" and phases[1][0] == "done":
            self.found.append((order, (phases[0][1], phases[1][1]), row + below[:1]))
        for call, phase in enumerate(phases):
            if phase[0] != "done":
                self.step(call, order, row, below, phases)

    def step(self, call, order, row, below, phases):
        """Do the next step of this call, and all that may follow."""
        follows = below[0][call] > 0
        way = phases[call][0]
        if way == "cut":
            left, behind = row + (False,), ("done", ("end", phases[call][1] if follows else "bad"))
        else:
            spot = (self.root, not self.goes[call], self.others_of(call, below[0]))
            own = own_of(self.entries[call]) if way == "ahead" else phases[call][1]
            how, left = self.stays[call].step("down" if way == "ahead" else "up", spot, row + (follows,), own)
            if way == "ahead" and (how[0] == "down") != (self.runs[call] is not None):
                return
            below = self.changed(call, left[2], below)
            behind = self.phase_behind(call, how, below[0][call])
        if way == "cut":
            below = self.changed(call, False, below)
        if behind is not None:
            told = (behind, phases[1]) if call == 0 else (phases[0], behind)
            self.go_on(order + "ab"[call], left[:2], below, told)

    def others_of(self, call, children):
        """How many children a call sees beside its next one."""
        other = 1 - call
        beside = 1 if not self.same and self.goes[other] and children[other] > 0 else 0
        return min(2, self.others + beside)

    def changed(self, call, follows, below):
        """below once the next child of this call is there or is not."""
        children, made = below
        number = children[call]
        if not follows:
            number = 0
        elif number == 0:
            number = 2 if made[call] else 1
        if self.same:
            return (number, number), (made[0] or follows, made[0] or follows)
        if call == 0:
            return (number, children[1]), (made[0] or follows, made[1])
        return (children[0], number), (made[0], made[1] or follows)

    def phase_behind(self, call, how, child):
        """What the call has to do here behind a step; None if it does not run as is told."""
        run = self.runs[call]
        if how[0] == "cut" and how[2] == "here":
            return told_above(how)
        if how[0] != "down":
            return "done", told_above(how)
        if entry_of(how) != run[0] or child != (2 if self.anew == call else 1):
            return None
        told, p = run[1], how[3]
        if told[0] == "up":
            return "back", (told[1], told[2], p if told[3] == "above" else told[3])
        return told if told[0] == "cut" and p == "here" else ("done", told)
