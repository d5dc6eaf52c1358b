"""Calls of one routine in rests of ways, of which no more is told than how they go on.

A run in a rest is None if the call does not go down into it, otherwise a pair: the entry, and how it comes out of the
rest: ("up", x, y, p), where p is "none", "above" or "in", ("cut", "none") or ("end", "none").
"""

from lettertrees.closing import cells_let
from lettertrees.parts import cheapest_cells
from lettertrees.stays import BOOLS, NO_ENTRY, Stays, entries_of, named_in


def cells_of(rule):
    """A dict from (root, goes_on) to the cells that a place may have; what keeps the fewest places hangs beside."""
    pairs = [(root, goes_on) for root in BOOLS for goes_on in BOOLS]
    return {(root, goes_on): cheapest_cells(rule, cells_let(rule, root, goes_on)) for root, goes_on in pairs}


def told_above(how):
    """How a call is behind a rest, as a run tells it."""
    if how[0] == "up":
        return named_in(how)
    return ("cut", "none") if how[0] == "cut" else ("end", "none")


class Runs:
    """The calls of a routine under a rule."""

    def __init__(self, routine, rule):
        self.stays = Stays(routine)
        self.entries = entries_of(routine)
        self.cells = cells_of(rule)

    def cells_above(self, there):
        """The cells that a place may have behind which a rest is there or not, None being a place that is out."""
        return self.cells[(False, there)] + ([] if there else [None])

    def visits(self, cell, root, ends, there, run):
        """All (entry, how, row, flags) of calls that come to a place with this cell and run so in the rest behind."""
        out = []
        for entry in [NO_ENTRY] if root else self.entries:
            told = self.stays.visit((root, ends, cell[2]), cell[:2] + (there,), entry, run)
            if told is not None:
                out.append((entry,) + told)
        return out
