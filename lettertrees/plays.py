"""Plays of routines on a told tree, one call alone or two at a time."""

from lettertrees.calls import Call, root_of, tree_below
from lettertrees.errors import BadOrder, BadWord
from lettertrees.trees import is_word


class Trace:
    """What one call has done: its steps, its answer, its misuse, and the tree behind it."""

    def __init__(self, steps, answer, kind, tree):
        self.steps = steps
        self.answer = answer
        self.kind = kind
        self.tree = tree


class Woven:
    """What two calls at a time have done: steps and their order, answers, misuses, and the tree behind both."""

    def __init__(self, steps, order, answers, kinds, tree):
        self.steps = steps
        self.order = order
        self.answers = answers
        self.kinds = kinds
        self.tree = tree


def check_word(tree, word, number):
    """Raise BadWord for any value that is no word over the letters of the tree."""
    if not is_word(tree.letters, word):
        raise BadWord(number)


def play(tree, routine, word):
    """The trace of a call of the routine on the tree."""
    check_word(tree, word, 0)
    root = root_of(tree)
    call = Call(routine, word, root)
    steps = []
    while call.ahead is not None:
        steps.append(call.step())
    return Trace(tuple(steps), call.answer, call.kind, tree_below(tree.letters, root))


def ordered_steps(calls, order):
    """The list of the steps that the order tells; BadOrder for the first sign that tells none."""
    if not isinstance(order, str):
        raise BadOrder(0)
    steps = []
    for number, sign in enumerate(order):
        if sign not in calls or calls[sign].ahead is None:
            raise BadOrder(number)
        place, way = calls[sign].step()
        steps.append((sign, place, way))
    return steps


def rest_of_steps(name, call):
    """The list of the steps that the call of this name has yet to do."""
    steps = []
    while call.ahead is not None:
        place, way = call.step()
        steps.append((name, place, way))
    return steps


def woven(tree, one, word, other, second, order):
    """What two calls at a time do on a tree, their steps coming in this order, and then the rest of them."""
    check_word(tree, word, 0)
    check_word(tree, second, 1)
    root = root_of(tree)
    a = Call(one, word, root)
    b = Call(other, second, root)
    steps = ordered_steps({"a": a, "b": b}, order) + rest_of_steps("a", a) + rest_of_steps("b", b)
    signs = "".join([step[0] for step in steps])
    return Woven(tuple(steps), signs, (a.answer, b.answer), (a.kind, b.kind), tree_below(tree.letters, root))
