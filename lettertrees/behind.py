"""Which kinds places have behind calls.

Of each tree, word and call one place is looked at, and what kind it has in the end.
"""

from lettertrees.cells import least_part
from lettertrees.closing import cells_let, closed
from lettertrees.outcomes import BARE, FRESH
from lettertrees.parts import cheapest_cells
from lettertrees.stays import NO_ENTRY, Stays, entries_of


def named_above(how, word):
    """How a call is behind a rest, with this word for its first place; ends are all alike."""
    if how[0] == "up":
        return how[:3] + (word if how[3] == "here" else how[3],)
    return ("cut", "none") if how[0] == "cut" else ("end", "none")


def kind_at(cell, row):
    """The kind of a place with this cell that has this row now."""
    mark, flag, follows = row
    return mark, flag, min(2, cell[2] + 1) if follows else cell[2]


class Looks:
    """The rests that come up, each with one place that is looked at.

    A rest is told by (there, run, kind). run is None if the call does not go down into it, otherwise the entry and the
    how. kind is that of the place that is looked at as it is then, None if it is no longer in the rest, or if the place
    is not in this rest at all.
    """

    def __init__(self, routine, rule):
        self.stays = Stays(routine)
        self.entries = entries_of(routine)
        self.rule = rule

    def cells_of(self, root, goes_on):
        """The cells that a place may have; what hangs beside the way does not matter."""
        return cheapest_cells(self.rule, cells_let(self.rule, root, goes_on))

    def behind_visit(self, cell, root, below, entry):
        """How the call is, the kind of the place with this cell, and the kinds that may be looked at below it.

        below is the rest behind, None if this place is the word's own; None if the call does not do so.
        """
        there, run, kind = (False, None, None) if below is None else below
        told = self.stays.visit((root, below is None, cell[2]), cell[:2] + (there,), entry, run)
        if told is None:
            return None
        how, row, _ = told
        kinds = []
        if row[2] and kind is not None:
            kinds = [kind]
        elif row[2] and run is None and not there:
            kinds = [BARE]
        return how, kind_at(cell, row), kinds

    def above_cell(self, below, cell):
        """All rests that begin with a place with this cell, None being out, with the rest behind."""
        there, run, kind = (False, None, None) if below is None else below
        out = []
        if run is None:
            out.append((cell is not None, None, kind))
        for entry in self.entries:
            told = self.behind_visit(FRESH if cell is None else cell, False, below, entry)
            if told is not None:
                how, own, kinds = told
                for seen in [None, own] + kinds:
                    out.append((cell is not None, (entry, named_above(how, "in")), seen))
        return out

    def above(self, below):
        """All rests of which this one is the rest behind, None being the one behind the word's own place."""
        goes_on = below is not None and below[0]
        cells = self.cells_of(False, goes_on) + ([] if goes_on else [None])
        return [(cell, rest) for cell in cells for rest in self.above_cell(below, cell)]

    def behind_root(self, below):
        """The kinds that come up at the root, and those that come up elsewhere, with this rest behind the root."""
        roots, others = [], []
        for cell in self.cells_of(True, below is not None and below[0]):
            told = self.behind_visit(cell, True, below, NO_ENTRY)
            if told is not None:
                roots.append(told[1])
                others.extend(told[2])
        return roots, others


def kinds_met(rule):
    """The kinds that places other than the root have in trees that keep the rule."""
    has_parts = least_part(rule, True) is not None or least_part(rule, False) is not None
    has_children = [kind for kind in rule.root if kind[2] > 0]
    return list(rule.others) if has_parts and has_children else []


def all_kinds_behind(routine, rule):
    """The kinds that the root, and that other places, have behind calls: two tuples, ascending."""
    looks = Looks(routine, rule)
    roots, others = {}, {kind: True for kind in kinds_met(rule)}
    for below in closed(looks.above, None):
        met, seen = looks.behind_root(below)
        for kind in met:
            roots[kind] = True
        for kind in seen:
            others[kind] = True
    return tuple(sorted(roots)), tuple(sorted(others))
