"""Tables and the like that come up, each from the one behind it."""

from lettertrees.cells import is_let
from lettertrees.errors import TooMany
from lettertrees.stays import BOOLS

MOST_TABLES = 2000


def closed(onward, most):
    """A dict from None, and from all that comes up from it, to the lists that onward tells.

    onward tells for each of them a list of pairs of a label and what comes up from it. TooMany if more than so many
    come up, unless most is None.
    """
    found = {}
    known = {None: True}
    ahead = [None]
    while ahead:
        behind = ahead.pop()
        found[behind] = onward(behind)
        for _, told in found[behind]:
            if told not in known:
                if most is not None and len(known) > most:
                    raise TooMany("tables", most + 1, most)
                known[told] = True
                ahead.append(told)
    return found


def cells_let(rule, root, goes_on):
    """The list of the cells that a place may have, ascending."""
    rows = [(mark, flag, others, words) for mark in BOOLS for flag in BOOLS for others in (0, 1, 2) for words in BOOLS]
    return [cell for cell in rows if is_let(rule, cell, root, goes_on)]


def rests_above(outcomes, rule):
    """A dict from None and from all tables that come up to the lists of (cell, table of the longer rest)."""
    onward = cells_let(rule, False, True)
    lowest = [None] + cells_let(rule, False, False)

    def longer_ones(table):
        there = table is not None and table[0]
        return [(cell, outcomes.table(cell, table, False)) for cell in (onward if there else lowest)]

    return closed(longer_ones, MOST_TABLES)


def tables_of(rests):
    """The tables of such a dict, ascending."""
    return tuple(sorted([table for table in rests if table is not None]))
