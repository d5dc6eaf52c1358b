"""The rests of ways that come up for calls of a routine, with the steps that are done at each place.

A rest is told by (there, run). The flags of a place are those that it has as the steps there begin, one for each step.
"""

from lettertrees.closing import closed
from lettertrees.least import Least
from lettertrees.outcomes import FRESH
from lettertrees.parts import words_at
from lettertrees.runs import Runs, told_above


class Chains:
    """All rests, and how they hang together; None is the rest behind the word's own place."""

    def __init__(self, routine, rule):
        self.rule = rule
        self.runs = Runs(routine, rule)
        # From each rest to the pairs ((cell, flags), rest that begins one place higher).
        self.ways_up = closed(self.all_above, None)
        # From each rest to the pairs (cell, flags) of roots.
        self.tops = {rest: self.all_tops(rest) for rest in self.ways_up}

    def all_above(self, behind):
        there, run = (False, None) if behind is None else behind
        out = []
        for cell in self.runs.cells_above(there):
            if run is None:
                out.append(((cell, ()), (cell is not None, None)))
            told = FRESH if cell is None else cell
            for entry, how, _, flags in self.runs.visits(told, False, behind is None, there, run):
                out.append(((cell, flags), (cell is not None, (entry, told_above(how)))))
        return out

    def all_tops(self, behind):
        there, run = (False, None) if behind is None else behind
        return [(cell, visit[3]) for cell in self.runs.cells[(True, there)]
                for visit in self.runs.visits(cell, True, behind is None, there, run)]

    def fewest_above(self):
        """A dict from the rests that hang below some root to how few words may be kept at all places above them."""
        steps = {rest: [] for rest in self.ways_up}
        starts = []
        for rest in self.ways_up:
            for label, higher in self.ways_up[rest]:
                steps[higher].append((words_at(self.rule, label[0]), None, rest))
            starts.extend([(words_at(self.rule, cell), None, rest) for cell, _ in self.tops[rest]])
        reached = Least(starts, lambda rest: steps[rest]).reached
        return {rest: reached[rest][0] for rest in reached}

    def fewest_below(self):
        """A dict from the rests to how few words may be kept in them."""
        fewest = {None: 0}

        def steps(rest):
            return [(words_at(self.rule, label[0]), None, higher) for label, higher in self.ways_up[rest]]

        reached = Least(steps(None), steps).reached
        for rest in reached:
            fewest[rest] = reached[rest][0]
        return fewest

    def steps_between(self, rests):
        """All (rest, higher rest, words, flags) among these rests: what is kept and done at the place between."""
        return [(rest, higher, words_at(self.rule, label[0]), label[1])
                for rest in rests for label, higher in self.ways_up[rest] if higher in rests]


def has_circle(steps):
    """Whether the steps, whose first two parts are where they come from and where they go to, hold a circle."""
    many = None
    while steps and len(steps) != many:
        many = len(steps)
        ends = {step[1]: True for step in steps}
        steps = [step for step in steps if step[0] in ends]
    return len(steps) > 0
