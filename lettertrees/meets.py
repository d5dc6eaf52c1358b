"""Two calls at a time: whether they are as if one came after the other, however their steps are woven."""

from lettertrees.errors import BadLock, BadWish, TreesError
from lettertrees.meeting import Meeting
from lettertrees.plays import woven
from lettertrees.tables import tables
from lettertrees.weavings import Found, is_held, is_in_line
from lettertrees.wishes import wanted

ORDERS = ("free", "line", "held")
WISHES_MET = ("has", "put", "strike")


class Safe:
    """That two calls are as if one came after the other."""

    def __init__(self, one, wish, other, second, rule, order):
        self.one = one
        self.wish = wish
        self.other = other
        self.second = second
        self.rule = rule
        self.order = order


class Clash:
    """That two calls are not so, with a tree, the pair of their words and a weaving that show it."""

    def __init__(self, one, wish, other, second, rule, order, tree, pair, weaving):
        self.one = one
        self.wish = wish
        self.other = other
        self.second = second
        self.rule = rule
        self.order = order
        self.tree = tree
        self.pair = pair
        self.weaving = weaving


def check_meeting(wish, second, order):
    """Raise the error of the first value that is no wish, or no order, of a meeting."""
    for name in (wish, second):
        if name not in WISHES_MET:
            raise BadWish(name)
    if order not in ORDERS:
        raise BadLock(order)


def meets(one, wish, other, second, rule, order="free"):
    """Safe, or Clash with a least tree, for two routines that are woven in this order."""
    check_meeting(wish, second, order)
    # Only for their errors.
    tables(one, rule)
    tables(other, rule)
    meeting = Meeting(one, wish, other, second, rule, order)
    labels = meeting.least_way()
    if labels is None:
        return Safe(one, wish, other, second, rule, order)
    found = Found(rule, (one, other), labels, meeting.ways_of(labels[0][2]))
    return Clash(one, wish, other, second, rule, order, found.tree, found.pair, found.weaving)


def is_of_order(clash):
    """Whether the weaving of a Clash, which is one of all steps, is of its order."""
    if clash.order == "held":
        return is_held(clash.weaving)
    return clash.order == "free" or is_in_line(clash.tree, (clash.one, clash.other), clash.pair, clash.weaving)


def is_as_if(rule, tree, calls, told):
    """Whether two woven calls are as if the first of calls came ahead of the second.

    calls are triples (wish, word, answer).
    """
    words = tree.words()
    for wish, word, answer in calls:
        right, words = wanted(wish, words, word)
        if answer != right:
            return False
    return told.kinds == (None, None) and tuple(sorted(told.tree.words())) == words and rule.keeps(told.tree)


def is_clash(clash):
    """Whether the tree, the words and the weaving of a Clash show that two calls are not as one after the other."""
    if not clash.rule.keeps(clash.tree):
        return False
    word, second = clash.pair
    try:
        told = woven(clash.tree, clash.one, word, clash.other, second, clash.weaving)
    except TreesError:
        return False
    if told.order != clash.weaving or not is_of_order(clash):
        return False
    a = (clash.wish, word, told.answers[0])
    b = (clash.second, second, told.answers[1])
    return not is_as_if(clash.rule, clash.tree, (a, b), told) and not is_as_if(clash.rule, clash.tree, (b, a), told)


def weakest(one, wish, other, second, rule):
    """The first one of the orders for which two routines are safe; None if there is none."""
    for order in ORDERS:
        if isinstance(meets(one, wish, other, second, rule, order), Safe):
            return order
    return None
