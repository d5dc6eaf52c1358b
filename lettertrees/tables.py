"""Tables: what a call does below a place."""

from lettertrees.cells import is_let
from lettertrees.errors import TooMany
from lettertrees.outcomes import BOOLS, Outcomes

MOST_TABLES = 2000


def longer(routine, rule, cell, table):
    """The table of the rest that begins with a place with this cell, ahead of the rest with this table."""
    return Outcomes(routine, rule).table(cell, table, False)


def whole(routine, rule, cell, table):
    """The same for a whole way, with the cell of the root."""
    return Outcomes(routine, rule).table(cell, table, True)


def cells_let(rule, goes_on):
    """The list of the cells that a place other than the root may have."""
    rows = [(mark, flag, others, words) for mark in BOOLS for flag in BOOLS for others in (0, 1, 2) for words in BOOLS]
    return [cell for cell in rows if is_let(rule, cell, False, goes_on)]


def tables(routine, rule):
    """All tables that come up, ascending."""
    outcomes = Outcomes(routine, rule)
    onward = cells_let(rule, True)
    lowest = [None] + cells_let(rule, False)
    found = {}
    # None stands for the rest behind the word's own place.
    ahead = [None]
    while ahead:
        table = ahead.pop()
        there = table is not None and table[0]
        for cell in onward if there else lowest:
            told = outcomes.table(cell, table, False)
            if told not in found:
                if len(found) == MOST_TABLES:
                    raise TooMany("tables", MOST_TABLES + 1, MOST_TABLES)
                found[told] = True
                ahead.append(told)
    return tuple(sorted(found))
