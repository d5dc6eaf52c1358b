"""Which kinds places have behind calls.

Of each tree, word and call one place is looked at, and what kind it has in the end.
"""

from lettertrees.cells import least_part
from lettertrees.closing import closed
from lettertrees.outcomes import BARE, FRESH
from lettertrees.runs import Runs, told_above

NOTHING = (False, None, None)


def kind_at(cell, row):
    """The kind of a place with this cell that has this row now."""
    mark, flag, follows = row
    return mark, flag, min(2, cell[2] + 1) if follows else cell[2]


def kinds_below(row, below):
    """The kinds that may be looked at below a place with this row now."""
    there, run, kind = below
    if not row[2]:
        return []
    if kind is not None:
        return [kind]
    # The child was made, and the call did not go to it.
    return [BARE] if run is None and not there else []


class Looks:
    """The rests that come up, each with one place that is looked at.

    A rest is told by (there, run, kind). kind is that of the place that is looked at as it is then, None if it is no
    longer in the rest, or if the place is not in this rest at all.
    """

    def __init__(self, routine, rule):
        self.runs = Runs(routine, rule)

    def above_cell(self, below, ends, cell):
        """All rests that begin with a place with this cell, None being out, with the rest behind."""
        there, run, kind = below
        out = []
        if run is None:
            out.append((cell is not None, None, kind))
        told = FRESH if cell is None else cell
        for entry, how, row, _ in self.runs.visits(told, False, ends, there, run):
            for seen in [None, kind_at(told, row)] + kinds_below(row, below):
                out.append((cell is not None, (entry, told_above(how)), seen))
        return out

    def above(self, behind):
        """All rests of which this one is the rest behind, None being the one behind the word's own place."""
        below = NOTHING if behind is None else behind
        cells = self.runs.cells_above(below[0])
        return [(cell, rest) for cell in cells for rest in self.above_cell(below, behind is None, cell)]

    def behind_root(self, behind):
        """The kinds that come up at the root, and those that come up elsewhere, with this rest behind the root."""
        below = NOTHING if behind is None else behind
        roots, others = [], []
        for cell in self.runs.cells[(True, below[0])]:
            for _, _, row, _ in self.runs.visits(cell, True, behind is None, below[0], below[1]):
                roots.append(kind_at(cell, row))
                others.extend(kinds_below(row, below))
        return roots, others


def kinds_met(rule):
    """The kinds that places other than the root have in trees that keep the rule."""
    has_parts = least_part(rule, True) is not None or least_part(rule, False) is not None
    has_children = [kind for kind in rule.root if kind[2] > 0]
    return list(rule.others) if has_parts and has_children else []


def all_kinds_behind(routine, rule):
    """The kinds that the root, and that other places, have behind calls: two tuples, ascending."""
    looks = Looks(routine, rule)
    roots, others = {}, {kind: True for kind in kinds_met(rule)}
    for behind in closed(looks.above, None):
        met, seen = looks.behind_root(behind)
        for kind in met:
            roots[kind] = True
        for kind in seen:
            others[kind] = True
    return tuple(sorted(roots)), tuple(sorted(others))
