"""The least tree on which two calls that are woven are not as if one came after the other."""

from lettertrees.belows import Fork, Shared
from lettertrees.closing import cells_let
from lettertrees.joints import Joints, cells_at_fork
from lettertrees.least import GOAL, Least
from lettertrees.outcomes import FRESH
from lettertrees.parts import PLACE, places_at
from lettertrees.scenes import is_bad
from lettertrees.stays import BOOLS
from lettertrees.wishes import yes_or_no

# For each order of locks the links that the root may have, and those that come up below it.
TOPS = {"free": ("any",), "line": ("line a", "line b"), "held": ("ab", "ba")}
LINKS = {"free": ("any", "ab", "ba"), "line": ("line a", "line b", "ab", "ba"), "held": ("ab", "ba")}


def done_alone(wish, kept):
    """What a wish asks for where the word is kept or not: the answer, and whether it is kept afterwards."""
    if wish == "has":
        return yes_or_no(kept), kept
    return yes_or_no(kept == (wish == "strike")), wish == "put"


def is_as_if(wishes, before, answers, behind):
    """Whether two calls are as if one came after the other, before and behind being told as in joints."""
    equal, kept, second, _ = before
    if not behind[2]:
        return False
    if not equal:
        told = [done_alone(wishes[0], kept), done_alone(wishes[1], second)]
        return told == [(answers[0], behind[0]), (answers[1], behind[1])]
    for first, last in ((0, 1), (1, 0)):
        answer, then = done_alone(wishes[first], kept)
        if answer == answers[first] and done_alone(wishes[last], then) == (answers[last], behind[0]):
            return True
    return False


class Meeting:
    """A search for the least tree, the rests of ways being those of joints."""

    def __init__(self, one, wish, other, second, rule, order):
        self.rule = rule
        self.wishes = (wish, second)
        self.joints = Joints(one, other, rule, TOPS[order], LINKS[order])
        self.cells = {(root, many): cells_let(rule, root, many == 1) for root in BOOLS for many in (0, 1)}
        for root in BOOLS:
            self.cells[(root, 2)] = cells_at_fork(rule, root)

    def least_way(self):
        """The labels (cell, order, singles) of a least way up to the root, the last place of both ways first, or None.

        singles is the pair of the rests of which this place lies ahead, None for the others.
        """
        return Least(self.starts(), self.above).labels(GOAL)

    def ways_of(self, singles):
        """For both calls the cells of the way behind the last place of both, the last one first; None for no way."""
        return [None if single is None else known.least.labels(single)
                for single, known in zip(singles, self.joints.singles)]

    def above(self, rest):
        """The steps up from a rest."""
        return self.steps_up(Shared(rest, self.rule), 1 if rest[1] else 0, 0, None)

    def starts(self):
        """The steps up from all pairs of rests behind the last place of both ways, the cheapest ones alone."""
        least = {}
        ones, others = [[(None, None)] + list(single.groups.items()) for single in self.joints.singles]
        for _, group in ones:
            for _, second in others:
                for single in group or [None]:
                    for other in second or [None]:
                        for step in self.steps_of_fork((single, other)):
                            if step[2] not in least or step[0] < least[step[2]][0]:
                                least[step[2]] = step
        return list(least.values())

    def steps_of_fork(self, singles):
        """The steps up from a place behind which the ways lie apart, or end."""
        below = Fork(singles, self.rule)
        if below.link == "new ab":
            return []
        cost = 0
        for single, known in zip(singles, self.joints.singles):
            if single is not None:
                cost += known.least.reached[single][0]
        return self.steps_up(below, len([there for there in below.there if there]), cost, singles)

    def steps_up(self, below, children, cost, singles):
        """The steps (cost, label, rest) up from what lies below a place, so many children being there by the ways."""
        out = []
        cells = [(root, cell) for root in BOOLS for cell in self.cells[(root, children)]]
        for root, cell in cells + ([] if children > 0 else [(False, None)]):
            more = cost + PLACE * places_at(self.rule, cell) + 1
            for order, rest in self.rests(root, cell, below):
                out.append((more, (cell, order, singles), rest))
        return out

    def rests(self, root, cell, below):
        """All (order, rest) with a place with this cell, None being out; behind the root GOAL in the place of rests."""
        place = FRESH if cell is None else cell
        out = []
        for option in self.joints.options(root, place[:3], below):
            link, runs, order, _, _ = option
            before, behind = None, None
            if not is_bad(runs[0]) and not is_bad(runs[1]):
                before = below.before(place[0], place[3])
                behind = self.joints.behind(root, place, below, before, option)
            if not root:
                out.append((order, (link, cell is not None, runs, before, behind)))
            elif behind is None or not is_as_if(self.wishes, before, self.answers_of(runs), behind):
                out.append((order, GOAL))
        return out

    def answers_of(self, runs):
        """The answers of two calls that have come to an end at the root; None for one without."""
        return [how[1] if how[0] == "end" else None for _, how in runs]
