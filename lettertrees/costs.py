"""The most steps of calls."""

from lettertrees.chains import Chains, has_circle
from lettertrees.errors import BadSize
from lettertrees.parts import tree_along, words_at
from lettertrees.tables import tables

MOST_LETTERS = 100
MOST_WORDS = 60


def check_up_to(size, most):
    """Raise BadSize for any value that is no integer from 0 to most."""
    if not isinstance(size, int) or isinstance(size, bool) or not 0 <= size <= most:
        raise BadSize(size)


def unflagged(flags):
    """How many steps begin at a place without a flag."""
    return len([flag for flag in flags if not flag])


class Costs:
    """The most steps of calls of a routine on trees that keep a rule."""

    def __init__(self, routine, rule):
        self._rule = rule
        self._chains = Chains(routine, rule)
        # For each length: from the rests of so many places to (most steps, cell of the first place, rest behind).
        self._levels = [{None: (0, None, None)}]
        self._fewest_above = self._chains.fewest_above()
        self._fewest_below = self._chains.fewest_below()
        self.slope = self.slope_told()

    def slope_told(self):
        """2 if calls come up along ways of any length, 1 if they only go down so, otherwise 0."""
        steps = self._chains.steps_between(self._fewest_above)
        for slope in (2, 1):
            if has_circle([step for step in steps if len(step[3]) >= slope]):
                return slope
        return 0

    def level(self, size):
        """The rests of so many places."""
        while len(self._levels) <= size:
            last = self._levels[-1]
            most = {}
            for rest in last:
                for (cell, flags), higher in self._chains.ways_up[rest]:
                    steps = last[rest][0] + len(flags)
                    if higher not in most or most[higher][0] < steps:
                        most[higher] = (steps, cell, rest)
            self._levels.append(most)
        return self._levels[size]

    def best_top(self, size):
        """The most steps with a word of so many letters, the root's cell, the rest behind it; None without a tree."""
        best = None
        level = self.level(size)
        for rest in level:
            for cell, flags in self._chains.tops[rest]:
                steps = level[rest][0] + len(flags)
                if best is None or best[0] < steps:
                    best = (steps, cell, rest)
        return best

    def worst(self, size):
        """The greatest number of steps of a call with a word of so many letters; None if no tree keeps the rule."""
        check_up_to(size, MOST_LETTERS)
        best = self.best_top(size)
        return None if best is None else best[0]

    def slowest(self, size):
        """A tree and a word of so many letters with so many steps; None if no tree keeps the rule."""
        check_up_to(size, MOST_LETTERS)
        best = self.best_top(size)
        if best is None:
            return None
        _, cell, rest = best
        way = [cell]
        for places in range(size, 0, -1):
            _, cell, rest = self.level(places)[rest]
            way.append(cell)
        return tree_along(self._rule, way[::-1])

    def by_words(self, many):
        """The greatest number of steps at places without a flag where at most so many words are kept, or None."""
        check_up_to(many, MOST_WORDS)
        above, below = self._fewest_above, self._fewest_below
        rests = {rest: True for rest in above if above[rest] + below[rest] <= many}
        if None not in rests:
            return None
        steps = [(rest, higher, words, unflagged(flags))
                 for rest, higher, words, flags in self._chains.steps_between(rests)]
        most = most_by_words(steps, many)
        if most is None:
            return None
        best = 0
        for rest in rests:
            for cell, flags in self._chains.tops[rest]:
                left = many - words_at(self._rule, cell)
                if left >= 0 and rest in most[left]:
                    best = max(best, most[left][rest] + unflagged(flags))
        return best


def raise_all(most, steps):
    """Raise what most has for each rest along steps that keep no words; False if it rises without end."""
    for _ in range(len(most) + len(steps) + 1):
        rises = False
        for rest, higher, _, more in steps:
            if rest in most and most.get(higher, -1) < most[rest] + more:
                most[higher] = most[rest] + more
                rises = True
        if not rises:
            return True
    return False


def most_by_words(steps, many):
    """For each number of words up to many a dict from the rests with at most so many to the most that is done there.

    None if it rises without end.
    """
    free = [step for step in steps if step[2] == 0]
    out = []
    for words in range(many + 1):
        most = {None: 0}
        for rest, higher, kept, more in steps:
            if 0 < kept <= words and rest in out[words - kept]:
                most[higher] = max(most.get(higher, 0), out[words - kept][rest] + more)
        if not raise_all(most, free):
            return None
        out.append(most)
    return out


def costs(routine, rule):
    """The Costs of calls of a routine on trees that keep a rule."""
    # Only for its error.
    tables(routine, rule)
    return Costs(routine, rule)
