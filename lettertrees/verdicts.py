"""Right or wrong: whether a routine does what a wish asks on all trees of a rule."""

from lettertrees.closing import cells_let, rests_above, tables_of
from lettertrees.errors import TreesError
from lettertrees.outcomes import Outcomes
from lettertrees.parts import PLACE, places_at, tree_along
from lettertrees.plays import play
from lettertrees.right import judged
from lettertrees.wishes import check_wish, yes_or_no
from lettertrees.wrongs import least_wrong_way


def wished_answer(wish, table):
    """The answer, as tables tell it, that a wish asks for."""
    _, kept, _, marks, begun, _ = table
    if wish == "longest":
        if kept:
            return "end"
        return "last" if marks else "none"
    if wish == "put":
        return yes_or_no(not kept)
    return yes_or_no(begun if wish == "begins" else kept)


def is_fine(wish, table):
    """Whether a call with the table of this whole way does what a wish asks."""
    check_wish(wish)
    how, kept, same, all_let = table[5][0][1]
    kept_then = table[1]
    if wish in ("put", "strike"):
        kept_then = wish == "put"
    return how == ("end", wished_answer(wish, table)) and kept == kept_then and same and all_let


class Right:
    """That a routine is right, with tables that show it."""

    def __init__(self, routine, rule, wish, tables):
        self.routine = routine
        self.rule = rule
        self.wish = wish
        self.tables = tuple(tables)


class Wrong:
    """That a routine is wrong, with a tree and a word that show it."""

    def __init__(self, routine, rule, wish, tree, word, how):
        self.routine = routine
        self.rule = rule
        self.wish = wish
        self.tree = tree
        self.word = word
        self.how = how


def verdict(routine, rule, wish):
    """Right, or Wrong with a least tree, for a routine, a rule and a wish."""
    check_wish(wish)
    outcomes = Outcomes(routine, rule)
    rests = rests_above(outcomes, rule)

    def is_bad(table):
        return not is_fine(wish, table)

    way = least_wrong_way(rests, outcomes, rule, lambda cell: PLACE * places_at(rule, cell) + 1, is_bad)
    if way is None:
        return Right(routine, rule, wish, tables_of(rests))
    tree, word = tree_along(rule, way)
    return Wrong(routine, rule, wish, tree, word, judged(wish, rule, tree, word, play(tree, routine, word)))


def is_right(right):
    """Whether the tables of a Right show that the routine is right."""
    rule = right.rule
    outcomes = Outcomes(right.routine, rule)
    known = {table: True for table in right.tables}
    for table in (None,) + right.tables:
        goes_on = table is not None and table[0]
        for cell in cells_let(rule, False, goes_on) + ([] if goes_on else [None]):
            if outcomes.table(cell, table, False) not in known:
                return False
        for cell in cells_let(rule, True, goes_on):
            if not is_fine(right.wish, outcomes.table(cell, table, True)):
                return False
    return True


def is_wrong(wrong):
    """Whether the tree and the word of a Wrong show that the routine is wrong."""
    if wrong.how == "right" or not wrong.rule.keeps(wrong.tree):
        return False
    try:
        trace = play(wrong.tree, wrong.routine, wrong.word)
    except TreesError:
        return False
    return judged(wrong.wish, wrong.rule, wrong.tree, wrong.word, trace) == wrong.how
