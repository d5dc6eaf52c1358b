"""Two routines side by side, each called with one word on a tree of its own, both trees being the same at first.

A rest is told by (there, runs, same, at_one). runs is a pair, for each routine None if its call does not go down into
the rest, otherwise the entry and how it comes out. same tells whether both trees are the same there then; for a call
that does not go down all is as before, or bare and just made. at_one tells whether the place that each call keeps or
answers is in the rest, and the same one.
"""

from lettertrees.least import GOAL, Least
from lettertrees.outcomes import FRESH
from lettertrees.parts import PLACE, places_at
from lettertrees.runs import cells_of
from lettertrees.stays import BOOLS, NO_ENTRY, Stays, entry_of, named_in, own_of

NOTHING = (False, (None, None), True, False)


def place_told(how):
    """The word for the place that a call keeps, or that it answers."""
    return how[3] if how[0] == "up" else how[1]


class Sides:
    """What comes up of the calls of two routines under a rule."""

    def __init__(self, one, other, rule):
        self.stays = (Stays(one), Stays(other))
        self.rule = rule
        self.cells = cells_of(rule)
        self.met = self.entries_met()

    def gone_down(self, cell, root, follows, entries):
        """The entries with which both calls go down from a place; None for one that does not."""
        out = []
        for stays, entry in zip(self.stays, entries):
            told = None
            if entry is not None:
                how, _ = stays.step("down", (root, False, cell[2]), cell[:2] + (follows,), own_of(entry))
                told = entry_of(how) if how[0] == "down" else None
            out.append(told)
        return tuple(out)

    def entries_met(self):
        """For rests that are there, and that are not: a dict of the pairs of entries of calls that go down there."""
        met = {True: {}, False: {}}
        ahead = [(True, True, (NO_ENTRY, NO_ENTRY))]
        while ahead:
            root, there, entries = ahead.pop()
            for follows in BOOLS if there else (False,):
                for cell in self.cells[(root, follows)] if there else [FRESH]:
                    gone = self.gone_down(cell, root, follows, entries)
                    if gone != (None, None) and gone not in met[follows]:
                        met[follows][gone] = True
                        ahead.append((False, follows, gone))
        return met

    def visits(self, cell, root, below, entries):
        """For both calls how they are, and the row of the place with this cell then; None if they do not do so."""
        there, runs, _, _ = NOTHING if below is None else below
        spot, row = (root, below is None, cell[2]), cell[:2] + (there,)
        out = []
        for stays, entry, run in zip(self.stays, entries, runs):
            told = (None, row)
            if entry is not None:
                told = stays.visit(spot, row, entry, run)
            elif run is not None:
                return None
            if told is None:
                return None
            out.append(told[:2])
        return out

    def compared(self, told, below):
        """Whether both trees are the same from a place on, and whether both calls tell the same place there."""
        _, _, same, at_one = NOTHING if below is None else below
        (how, row), (other_how, other_row) = told
        is_same = row == other_row and (same or not row[2])
        if how is None or other_how is None:
            return is_same, False
        words = (place_told(how), place_told(other_how))
        return is_same, words == ("here", "here") or (words == ("in", "in") and at_one)

    def above_cell(self, cell, below):
        """The rests that begin with a place with this cell, None being out, with this rest behind."""
        out = []
        for entries in [(None, None)] + list(self.met[cell is not None]):
            told = self.visits(FRESH if cell is None else cell, False, below, entries)
            if told is not None:
                runs = [None if how is None else (entry, named_in(how)) for entry, (how, _) in zip(entries, told)]
                out.append((cell is not None, tuple(runs)) + self.compared(told, below))
        return out

    def is_unlike(self, cell, below):
        """Whether the calls end otherwise, or leave other trees, if the root has this cell and this is behind it."""
        told = self.visits(cell, True, below, (NO_ENTRY, NO_ENTRY))
        if told is None:
            return False
        same, at_one = self.compared(told, below)
        ends = [("end", "none") if how[0] == "up" else how for how, _ in told]
        if ends[0] != ends[1] or not same:
            return True
        return ends[0][0] == "end" and ends[0][1] in ("here", "in") and not at_one

    def above(self, below):
        """The steps (cost, cell, rest) up from a rest, None being the one behind the word's own place."""
        goes_on = below is not None and below[0]
        out = []
        for cell in self.cells[(False, goes_on)] + ([] if goes_on else [None]):
            cost = PLACE * places_at(self.rule, cell) + 1
            out.extend([(cost, cell, rest) for rest in self.above_cell(cell, below)])
        for cell in self.cells[(True, goes_on)]:
            if self.is_unlike(cell, below):
                out.append((PLACE * places_at(self.rule, cell) + 1, cell, GOAL))
        return out

    def least_way(self):
        """The cells of a least way, the last one first, on which both calls are unlike; None if there is none."""
        return Least(self.above(None), self.above).labels(GOAL)
