"""Least ways on which a call does not do as is wished."""

from lettertrees.closing import cells_let
from lettertrees.least import GOAL, Least


def least_wrong_way(rests, outcomes, rule, cost, is_wrong):
    """The cells of a way at the least cost, the last one first, for whose table is_wrong holds; None if there is none.

    rests is the dict of all rests that come up; cost tells for each cell what it costs.
    """
    rooted = {goes_on: cells_let(rule, True, goes_on) for goes_on in (False, True)}

    def steps(table):
        goes_on = table is not None and table[0]
        out = [(cost(cell), cell, told) for cell, told in rests[table]]
        for cell in rooted[goes_on]:
            if is_wrong(outcomes.table(cell, table, True)):
                out.append((cost(cell), cell, GOAL))
        return out

    return Least(steps(None), steps).labels(GOAL)
