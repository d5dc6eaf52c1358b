"""Rests of the ways of two words, a's and b's, with all that two calls woven there may do.

A rest that both ways go into is told by (link, there, runs, before, behind). link is
- "" if at most one call comes to its first place;
- "new a" or "new b" if this call comes to a place that was made anew there, what was there first having been cut off
  (the other call may come to what was there first);
- otherwise both come to the same place: "any" if their steps there and behind come in any order, "line a" or "line b"
  if this call's step down is first at each place to which both come, "ab" or "ba" if this one is through ahead of the
  other one.
there tells whether the place that is there first is so ahead of both calls. runs is the pair of the runs, as in scenes.
before is (equal, kept, second, more): whether the words are equal, whether a's and b's are kept, and others. behind is
(kept, second, well): whether they are kept then, and whether the others are those of before and all kinds are let.
before and behind are None where a run is bad.
"""

from lettertrees.cells import least_part
from lettertrees.outcomes import FRESH
from lettertrees.scenes import Scene
from lettertrees.singles import Singles
from lettertrees.stays import BOOLS, NO_ENTRY, Stays, entries_of, entry_of, own_of

NOBODY = (None, None)


def links_of(order, link, shared):
    """The links that the order of the steps at a place may have, this being the link of the rest behind.

    shared tells whether both calls go down into the same place.
    """
    firsts = {sign: order.index(sign) for sign in "ab"}
    out = []
    for sign, other in (("a", "b"), ("b", "a")):
        is_through = order.rfind(sign) < firsts[other]
        # The step of going up, or of cutting.
        is_back = order[:firsts[other]].count(sign) > 1
        if shared and is_back and link != sign + other:
            return []
        if is_through and (not shared or link == sign + other):
            out.append(sign + other)
        if firsts[sign] == 0 and (not shared or link == "line " + sign or is_back):
            out.append("line " + sign)
        if firsts[sign] == 0 and (not shared or link == "any" or is_back):
            out.append("any")
    return out


def entries_below(stays, root, ends, entry):
    """A dict of the entries with which calls that come to places with this one may go down; None if they may stay."""
    found = {}
    for row in [(mark, flag, follows) for mark in BOOLS for flag in BOOLS for follows in BOOLS]:
        for others in (0, 1, 2):
            how, _ = stays.step("down", (root, ends, others), row, own_of(entry))
            found[entry_of(how) if how[0] == "down" else None] = True
    return found


def entries_reached(stays, routine):
    """The list of the entries of a routine with which some call may go down."""
    found = {}
    ahead = [(True, NO_ENTRY)]
    while ahead:
        root, entry = ahead.pop()
        for gone in entries_below(stays, root, False, entry):
            if gone is not None and gone not in found:
                found[gone] = True
                ahead.append((False, gone))
    return [entry for entry in entries_of(routine) if entry in found]


def cells_at_fork(rule, root):
    """The cells that a place may have from which both ways go on apart, both children being there."""
    kinds = rule.root if root else rule.others
    rows = [(mark, flag, others, words) for mark in BOOLS for flag in BOOLS for others in (0, 1, 2) for words in BOOLS]
    return [cell for cell in rows if cell[:2] + (2,) in kinds
            and (not cell[3] if cell[2] == 0 else least_part(rule, cell[3]) is not None)]


class Joints:
    """All that two calls may do under a rule, their steps being woven with some links at the root and others below."""

    def __init__(self, one, other, rule, tops, links):
        self.rule = rule
        self.tops = tops
        self.links = links
        self.stays = (Stays(one), Stays(other))
        self.entries = [entries_reached(stays, routine) for stays, routine in zip(self.stays, (one, other))]
        self.singles = [Singles(stays, rule, entries) for stays, entries in zip(self.stays, self.entries)]
        # For both calls, from (whether the word ends, entry) to the entries that may come from it below.
        self.gone = [{(ends, entry): entries_below(stays, False, ends, entry) for ends in BOOLS for entry in entries}
                      for stays, entries in zip(self.stays, self.entries)]
        self.known = {}

    def options(self, root, place, below):
        """All (link, runs, order, final, anew) at a place that is met as (mark, flag, others), below lying behind it.

        final is (mark, flag, children) behind all steps, as in scenes; if anew is the number of a call it is that of
        the place that was made anew for it. It is None if nobody comes there.
        """
        key = (root, place, below.goes, below.there, below.runs, below.link, below.same)
        if key not in self.known:
            told = self.at_first(root, place, below)
            if not root:
                told = told + self.at_anew(0, place, below) + self.at_anew(1, place, below)
                if below.runs == NOBODY:
                    told.append(("", NOBODY, "", None, None))
            self.known[key] = told
        return self.known[key]

    def entry_pairs(self, root, below):
        """The pairs of entries with which calls may come to a place, so that somebody comes."""
        if root:
            return [(NO_ENTRY, NO_ENTRY)]
        ones, others = [self.entries_to(call, below) + ([None] if below.runs[call] is None else []) for call in (0, 1)]
        return [(one, other) for one in ones for other in others if one is not None or other is not None]

    def entries_to(self, call, below):
        """The entries with which a call may come to a place and run as it does below."""
        gone = None if below.runs[call] is None else below.runs[call][0]
        return [entry for entry in self.entries[call] if gone in self.gone[call][(not below.goes[call], entry)]]

    def at_first(self, root, place, below):
        """The options at a place that was there first."""
        anew = None
        if below.link.startswith("new"):
            if not below.same:
                return []
            anew = "ab".index(below.link[-1])
        shared = below.same and anew is None and None not in below.runs
        out = []
        for entries in self.entry_pairs(root, below):
            alone = None in entries
            scene = Scene(self.stays, (root,) + place, below.goes, below.same, below.there, entries, below.runs, anew)
            for order, hows, final in scene.all_orders():
                runs = tuple([None if how is None else (entry, how) for entry, how in zip(entries, hows)])
                links = [""] if alone else links_of(order, below.link, shared)
                let = self.tops if root else self.links
                out.extend([(link, runs, order, final, None) for link in links if link == "" or link in let])
        return out

    def alone(self, call, place, below, there):
        """All (run, final) of one call that comes to a place without the other one."""
        out = []
        runs = self.only(call, below.runs[call])
        for entry in self.entries_to(call, below):
            scene = Scene(self.stays, place, below.goes, below.same, there, self.only(call, entry), runs, None)
            out.extend([((entry, hows[call]), final) for _, hows, final in scene.all_orders()])
        return out

    def only(self, call, value):
        """A pair with this value for one call, and None for the other one."""
        return (value, None) if call == 0 else (None, value)

    def at_anew(self, call, place, below):
        """The options of a call that comes to a place made anew, where another one was there first."""
        link = "new " + "ab"[call]
        if below.link != ("" if below.runs[call] is None else link):
            return []
        others = [(None, None)] if below.runs[1 - call] is None else []
        others.extend(self.alone(1 - call, (False,) + place, below, below.there))
        out = []
        for run, final in self.alone(call, (False,) + FRESH[:3], below, (False, False)):
            for second, _ in others:
                out.append((link, (run, second) if call == 0 else (second, run), "", final, call))
        return out

    def behind(self, root, place, below, before, option):
        """Whether both words are kept at and below a place in the end, and whether all else is well there."""
        _, _, _, final, anew = option
        if final is None:
            return before[1], before[2], True
        mark, flag, children = final
        kept, second, well = below.left(children, anew)
        many = len([number for number in (children[:1] if below.same else children) if number > 0])
        others = place[2] if anew is None else 0
        if (mark, flag, min(2, others + many)) not in (self.rule.root if root else self.rule.others):
            well = False
        # A place made anew may be marked as the one that was there first, but what hung beside that one is lost.
        if (below.goes == (True, True) and mark != place[0]) or (anew is not None and place[3]):
            well = False
        return kept if below.goes[0] else mark, second if below.goes[1] else mark, well
