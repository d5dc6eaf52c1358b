"""Weavings of two calls: how one is found, and of which order it is."""

from lettertrees.calls import Call, root_of
from lettertrees.parts import LETTERS, rows_along, rows_at
from lettertrees.trees import Tree


def place_ahead(call):
    """The place of the next step of a call."""
    return call.kept if call.ahead == "cut" else call.passed[-1]


class Loom:
    """Two calls on one tree, whose steps at each place that both ways share come in an order that is given.

    orders are strings of "a" and "b", the root's first; "" where the steps may come in any order.
    """

    def __init__(self, tree, routines, words, orders):
        root = root_of(tree)
        self.calls = [Call(routine, word, root) for routine, word in zip(routines, words)]
        self.orders = list(orders)
        self.signs = ""

    def weave(self):
        """The signs of all steps; the call that is first at the root goes ahead as far as it may."""
        first = "ab".index(self.orders[0][0])
        while self.do_one(first) or self.do_one(1 - first):
            pass
        return self.signs

    def do_one(self, number):
        """Do a step of a call if it has one and if it is its turn; whether that is so."""
        call, sign = self.calls[number], "ab"[number]
        if call.ahead is None:
            return False
        depth = len(place_ahead(call).word)
        order = self.orders[depth] if depth < len(self.orders) else ""
        if order != "":
            if order[0] != sign:
                return False
            # Nothing is left of it once both calls are through there.
            self.orders[depth] = order[1:]
        call.step()
        self.signs = self.signs + sign
        return True


class Found:
    """The tree, the pair of words and the weaving that the labels of a least way tell.

    ways are the cells of both ways behind the last place of both, as in meeting.
    """

    def __init__(self, rule, routines, labels, ways):
        rows = []
        words = []
        for depth, (cell, _, _) in enumerate(labels[::-1]):
            rows.extend(rows_at(rule, "a" * depth, cell))
        last = "a" * (len(labels) - 1)
        tops = [last + "a", last + ("b" if None not in ways else "a")]
        for top, way in zip(tops, ways):
            if way is not None:
                rows.extend(rows_along(rule, top, way))
            words.append(last if way is None else top + "a" * (len(way) - 1))
        self.tree = Tree(LETTERS, rows)
        orders = [order for _, order, _ in labels[::-1]]
        self.pair = (words[0], words[1])
        self.weaving = Loom(self.tree, routines, self.pair, orders).weave()


def is_held(weaving):
    """Whether all signs of one call come ahead of all of the other one."""
    ones = len([sign for sign in weaving if sign == "a"])
    return weaving in ("a" * ones + "b" * (len(weaving) - ones), "b" * (len(weaving) - ones) + "a" * ones)


def is_in_line(tree, routines, words, weaving):
    """Whether at each place to which both calls come down the same one of them does so first."""
    root = root_of(tree)
    calls = {sign: Call(routine, word, root) for sign, routine, word in zip("ab", routines, words)}
    first = {}
    leaders = []
    for sign in weaving:
        call = calls[sign]
        if call.ahead == "down":
            place = place_ahead(call)
            if place in first:
                leaders.append(first[place])
            first[place] = sign
        call.step()
    return "a" not in leaders or "b" not in leaders
