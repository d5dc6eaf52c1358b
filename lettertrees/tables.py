"""Tables: what a call does below a place."""

from lettertrees.closing import rests_above, tables_of
from lettertrees.outcomes import Outcomes


def longer(routine, rule, cell, table):
    """The table of the rest that begins with a place with this cell, ahead of the rest with this table."""
    return Outcomes(routine, rule).table(cell, table, False)


def whole(routine, rule, cell, table):
    """The same for a whole way, with the cell of the root."""
    return Outcomes(routine, rule).table(cell, table, True)


def tables(routine, rule):
    """All tables that come up, ascending."""
    return tables_of(rests_above(Outcomes(routine, rule), rule))
