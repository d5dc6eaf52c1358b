"""All sets of words and all trees: exact means, and how many trees a wrong routine is wrong on."""

from math import comb

from lettertrees.errors import BadSize, NotExact
from lettertrees.pairs import number_wrong
from lettertrees.ratios import Ratio
from lettertrees.stays import NO_ENTRY
from lettertrees.surveys import Counts, Sets, power
from lettertrees.trees import check_letters
from lettertrees.verdicts import is_fine
from lettertrees.wishes import check_wish

LONGEST_OF_SETS = 5
MOST_OF_SETS = 50
MOST_PLACES_OF_PAIRS = 40
LONGEST_OF_PAIRS = 3


def check_between(size, least, most):
    """Raise BadSize for any value that is no integer between these two."""
    if not isinstance(size, int) or isinstance(size, bool) or not least <= size <= most:
        raise BadSize(size)


def check_exact(rule):
    """Raise NotExact for a rule that is not exact."""
    if not rule.is_exact():
        raise NotExact()


def end_of(how):
    """The pair (answer, kind) of a call that has ended so."""
    if how[0] == "misuse":
        return None, how[1]
    return (None if how[1] == "none" else how[1]), None


def table_of_outcome(outcome, length):
    """The table of a whole way of a word of this length, all kept words being as long."""
    how, _, kept, more, then, same, all_let = outcome
    if isinstance(how[1], tuple):
        how = ("end", "end" if how[1] == ("at", length) else "other")
    return True, kept, more, False, kept, ((NO_ENTRY, (how, then, same, all_let)),)


def mean_size(sets, many):
    """The mean number of places of the trees of all sets of so many words."""
    total = comb(sets.words(0), many)
    places = 0
    for depth in range(1, sets.length + 1):
        without = comb(sets.words(0) - sets.words(depth), many)
        places += power(sets.letters, depth) * (total - without)
    return Ratio(places, total) + 1


class Survey:
    """Exact means over all sets of so many words of one length, and all words of this length."""

    def __init__(self, outcomes, sets, many):
        self._outcomes = outcomes
        self._length = sets.length
        self._total = sum([outcomes[outcome] for outcome in outcomes])
        self.steps = Ratio(sum([outcome[1] * outcomes[outcome] for outcome in outcomes]), self._total)
        self.places = mean_size(sets, many)
        ends = {}
        for outcome in outcomes:
            end = end_of(outcome[0])
            ends[end] = ends.get(end, 0) + outcomes[outcome]
        self.ends = {end: Ratio(ends[end], self._total) for end in ends}

    def wrong(self, name):
        """The chance that a call is not as a wish asks."""
        check_wish(name)
        wrong = [self._outcomes[outcome] for outcome in self._outcomes
                 if not is_fine(name, table_of_outcome(outcome, self._length))]
        return Ratio(sum(wrong), self._total)


def survey(routine, rule, letters, length, many):
    """The Survey of calls on the trees of all sets of so many words of this length."""
    check_exact(rule)
    check_letters(letters)
    check_between(length, 1, LONGEST_OF_SETS)
    sets = Sets(len(letters), length)
    check_between(many, 0, min(MOST_OF_SETS, sets.words(0)))
    return Survey(Counts(routine, rule, sets).wholes(many), sets, many)


def wrong_pairs(routine, rule, name, letters, size, longest):
    """How many pairs of a tree of so many places and a word of at most so many letters are not as a wish asks."""
    check_exact(rule)
    check_wish(name)
    check_letters(letters)
    check_between(size, 1, MOST_PLACES_OF_PAIRS)
    check_between(longest, 0, LONGEST_OF_PAIRS)
    return number_wrong(routine, rule, name, len(letters), size, longest)
