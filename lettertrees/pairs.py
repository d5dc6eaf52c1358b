"""On how many trees of so many places, and with how many words, a call is not as a wish asks."""

from lettertrees.closing import cells_let
from lettertrees.forests import next_forests, numbers_by_size
from lettertrees.outcomes import Outcomes
from lettertrees.surveys import power
from lettertrees.verdicts import is_fine


def times(one, other):
    """The product of two lists of numbers by size, as far as the sizes go."""
    out = [0] * len(one)
    for size, many in enumerate(one):
        if many > 0:
            for more in range(len(one) - size):
                out[size + more] += many * other[more]
    return out


def numbers_beside(parts, letters):
    """For 0, 1 and 2 children by some of so many letters the list of how many such forests there are by size."""
    forests = [1]
    while len(forests) < len(parts):
        forests.append(next_forests(letters, parts, forests))
    none = [1] + [0] * (len(parts) - 1)
    single = [letters * many for many in parts]
    return [none, single, [forests[size] - single[size] - none[size] for size in range(len(parts))]]


class WrongTrees:
    """The numbers of trees of up to so many places on which calls of a routine are wrong."""

    def __init__(self, routine, rule, wish, letters, size):
        self.outcomes = Outcomes(routine, rule)
        self.rule = rule
        self.wish = wish
        self.size = size
        parts = numbers_by_size(rule.others, letters, size)[0]
        # A place itself comes to what hangs beside the way there, or below the word's end.
        self.beside = [[0] + numbers[:-1] for numbers in numbers_beside(parts, letters - 1)]
        self.under = [[0] + numbers[:-1] for numbers in numbers_beside(parts, letters)]

    def longer(self, rests):
        """A dict from the tables of rests that begin one place higher to their numbers by size."""
        out = {}
        for table in rests:
            there = table is not None and table[0]
            numbers = [times(rests[table], beside) for beside in (self.under if table is None else self.beside)]
            for cell in cells_let(self.rule, False, there):
                self.count_in(out, self.outcomes.table(cell, table, False), numbers[cell[2]])
            if not there:
                self.count_in(out, self.outcomes.table(None, table, False), rests[table])
        return out

    def count_in(self, out, table, numbers):
        """Add the numbers by size to those of a table."""
        known = out.get(table, [0] * len(numbers))
        out[table] = [known[size] + numbers[size] for size in range(len(numbers))]

    def wrong_ones(self, rests):
        """How many trees with a root above these rests are wrong."""
        many = 0
        for table in rests:
            there = table is not None and table[0]
            numbers = [times(rests[table], beside)[-1] for beside in (self.under if table is None else self.beside)]
            for cell in cells_let(self.rule, True, there):
                if not is_fine(self.wish, self.outcomes.table(cell, table, True)):
                    many += numbers[cell[2]]
        return many


def number_wrong(routine, rule, wish, letters, size, longest):
    """How many pairs of a tree of so many places and a word of at most so many letters are wrong."""
    trees = WrongTrees(routine, rule, wish, letters, size)
    rests = {None: [1] + [0] * size}
    many = 0
    for length in range(longest + 1):
        many += trees.wrong_ones(rests) * power(letters, length)
        rests = trees.longer(rests)
    return many
