"""Two routines side by side: whether they do the same on all trees of a rule."""

from lettertrees.parts import tree_along
from lettertrees.plays import play
from lettertrees.sides import Sides
from lettertrees.tables import tables


class Alike:
    """That two routines do the same."""

    def __init__(self, one, other, rule):
        self.one = one
        self.other = other
        self.rule = rule


class Unlike:
    """That two routines do not do the same, with a tree and a word that show it."""

    def __init__(self, one, other, rule, tree, word, how):
        self.one = one
        self.other = other
        self.rule = rule
        self.tree = tree
        self.word = word
        self.how = how


def unlike_on(one, other, tree, word):
    """What the plays of both routines do otherwise: "end", "tree", or None for nothing."""
    trace, second = play(tree, one, word), play(tree, other, word)
    if (trace.answer, trace.kind) != (second.answer, second.kind):
        return "end"
    return None if trace.tree == second.tree else "tree"


def alike(one, other, rule):
    """Alike, or Unlike with a least tree, for two routines and a rule."""
    # Only for their errors.
    tables(one, rule)
    tables(other, rule)
    way = Sides(one, other, rule).least_way()
    if way is None:
        return Alike(one, other, rule)
    tree, word = tree_along(rule, way)
    return Unlike(one, other, rule, tree, word, unlike_on(one, other, tree, word))
