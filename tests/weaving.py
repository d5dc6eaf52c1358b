"""All weavings of two calls, to compare with."""

from lettertrees.plays import woven
from lettertrees.wishes import wanted
from tests.reference import Caller, root_node

ORDERS = ("free", "line", "held")


def word_pairs(longest):
    """Pairs of words of so many letters: any other pair fares as one of them does, with other letters."""
    out = []
    for length in range(longest + 1):
        one = "a" * length
        for common in range(length + 1):
            if common < length:
                out.append((one, one[:common]))
                out.extend((one, one[:common] + "b" + "a" * more) for more in range(longest - common))
        out.extend((one, one + "a" * more) for more in range(longest - length + 1))
    return out


def all_woven(tree, one, word, other, second):
    """The Woven of each weaving of both calls, each once."""
    ahead = [""]
    while ahead:
        prefix = ahead.pop()
        told = woven(tree, one, word, other, second, prefix)
        yield told
        rest = told.order[len(prefix):]
        if "b" in rest:
            ahead.extend(prefix + rest[:at] + "b" for at in range(rest.count("a")))


class Follower(Caller):
    """A call that tells the places to which it comes down."""

    def __init__(self, routine, word):
        super().__init__(routine, word)
        self.came_down = []

    def at_lowest(self, node):
        self.came_down.append(node)
        return super().at_lowest(node)


def is_line(tree, one, word, other, second, order):
    """Whether at each place at which both do a step down the same one is first, order being one of all steps."""
    root = root_node(tree.rows)
    callers = {"a": Follower(one, word), "b": Follower(other, second)}
    running = {sign: caller.steps(root) for sign, caller in callers.items()}
    came = []
    for sign in order:
        many = len(callers[sign].came_down)
        next(running[sign])
        came.extend((sign, node) for node in callers[sign].came_down[many:])
    firsts = set()
    for at, (sign, node) in enumerate(came):
        firsts |= {earlier for earlier, before in came[:at] if before is node}
    return len(firsts) < 2


def is_held(order):
    """Whether one call has ended ahead of the other one's first step."""
    return order in ("".join(sorted(order)), "".join(sorted(order, reverse=True)))


def is_one_after_the_other(rule, wishes, tree, pair, told):
    """Whether two calls are as if a, and then b, were done, or b, and then a."""
    if told.kinds != (None, None) or not rule.keeps(told.tree):
        return False
    for first, last in ((0, 1), (1, 0)):
        answer, words = wanted(wishes[first], tree.words(), pair[first])
        second, words = wanted(wishes[last], words, pair[last])
        if (told.answers[first], told.answers[last]) == (answer, second) and words == tuple(sorted(told.tree.words())):
            return True
    return False


def plain_clashes(one, wish, other, second, rule, trees, longest):
    """A dict from the orders to the size of the least tree, of lists of trees by size, with a clash; None for none."""
    found = {}
    for same_size in trees:
        for tree in same_size:
            for pair in word_pairs(longest):
                for told in all_woven(tree, one, pair[0], other, pair[1]):
                    if not is_one_after_the_other(rule, (wish, second), tree, pair, told):
                        found.setdefault("free", tree.size)
                        if "line" not in found and is_line(tree, one, pair[0], other, pair[1], told.order):
                            found["line"] = tree.size
                        if "held" not in found and is_held(told.order):
                            found["held"] = tree.size
                if len(found) == 3:
                    return found
    return {order: found.get(order) for order in ORDERS}
