"""Rests of the way of one of two words, behind the last place that both ways share.

A rest is told by (anew, there, run, before, behind): whether the call, if it runs in it, does so in places that are all
made anew, since what was there was cut off (it still is what was there first that is told by there and before); whether
its first place is there; the run as in scenes; before, whether the word and whether others are kept in it; behind,
whether the word is kept in it then, and whether the other words are those of before and all kinds are let. before and
behind are None where the run is bad.
"""

from lettertrees.closing import cells_let
from lettertrees.least import Least
from lettertrees.outcomes import BARE, FRESH
from lettertrees.parts import PLACE, places_at
from lettertrees.scenes import is_bad, told_above
from lettertrees.stays import BOOLS

NOTHING = (False, False, None, (False, False), (False, True))


def runs_at(stays, cell, ends, there, run, entries):
    """All (run, row) of calls that come to a place with this cell, not the root, and run so in the rest behind."""
    out = []
    for entry in entries:
        told = stays.visit((False, ends, cell[2]), cell[:2] + (there,), entry, run)
        if told is not None:
            how, row, _ = told
            out.append(((entry, told_above(how)), row))
    return out


class Singles:
    """All rests of one call, at the least cost."""

    def __init__(self, stays, rule, entries):
        self.stays = stays
        self.rule = rule
        self.entries = entries
        self.cells = {goes_on: cells_let(rule, False, goes_on) for goes_on in BOOLS}
        self.least = Least(self.above(None), self.above)
        # From (anew, there, run) to the rests with these.
        self.groups = {}
        for rest in self.least.reached:
            self.groups.setdefault(rest[:3], []).append(rest)

    def above(self, rest):
        """The steps (cost, cell, rest) up from a rest, None being the one behind the word's own place."""
        there = rest is not None and rest[1]
        out = []
        for cell in self.cells[there] + ([] if there else [None]):
            cost = PLACE * places_at(self.rule, cell) + 1
            out.extend([(cost, cell, higher) for higher in self.above_cell(cell, rest)])
        return out

    def above_cell(self, cell, rest):
        """The rests that begin with a place with this cell, None being out, with this rest behind."""
        ends = rest is None
        below = NOTHING if ends else rest
        place = FRESH if cell is None else cell
        before = self.before(place, ends, below)
        out = []
        if below[2] is None:
            out.append((False, cell is not None, None, before, None if before is None else (before[0], True)))
        for anew in BOOLS:
            if below[2] is None or below[0] == anew:
                met = FRESH if anew else place
                for run, row in runs_at(self.stays, met, ends, below[1] and not anew, below[2], self.entries):
                    told = (None, None) if is_bad(run) else (before, self.behind(place, row, ends, below, anew))
                    out.append((anew, cell is not None, run) + told)
        return out

    def before(self, place, ends, below):
        """Whether the word, and whether others, are kept in the rest."""
        if ends:
            return place[0], place[3]
        if below[3] is None:
            return None
        kept, more = below[3]
        return kept, more or place[0] or place[3]

    def behind(self, place, row, ends, below, anew):
        """Whether the word is kept then, and whether all else is well from a place on that has this row now.

        place is the cell of the place that was there first. One that is made anew may be marked as that one was, but
        what hung beside it is lost.
        """
        mark, flag, follows = row
        _, there, run, before, behind = below
        if not follows:
            kept, well = False, not before[1]
        elif run is not None:
            kept, well = behind
        elif there and not anew:
            kept, well = before[0], True
        else:
            kept, well = False, BARE in self.rule.others and not before[1]
        others = 0 if anew else place[2]
        well = well and (mark, flag, min(2, others + 1) if follows else others) in self.rule.others
        if anew and place[3]:
            well = False
        return (mark, well) if ends else (kept, well and mark == place[0])
