"""What lies behind a place that two calls go over, and what is left of it then.

Each class tells of both calls: goes, whether letters are left; same, whether the next child is the same one; there,
whether it is there at first; runs, as in scenes; link, as in joints.
"""

from lettertrees.outcomes import BARE


class Shared:
    """The rest, as in joints, into which both ways go on."""

    def __init__(self, rest, rule):
        self.link, there, self.runs, self._before, self._behind = rest
        self.goes = (True, True)
        self.same = True
        self.there = (there, there)
        self.bare_is_let = BARE in rule.others

    def before(self, mark, words):
        """Whether the words are equal, whether each is kept, and whether others are, a place ahead having this mark.

        words tells whether others are kept beside the ways there.
        """
        equal, kept, second, more = self._before
        return equal, kept, second, more or mark or words

    def left(self, children, anew):
        """Whether each word is kept behind the place then, and whether all else is well there.

        children are told as in scenes. anew is the number of a call that has come to a place made anew, of which the
        children are these; None if they are those of the place that was there first.
        """
        number = children[0]
        _, kept, second, more = self._before
        if number == 0:
            return False, False, not more
        if self.is_run_in(number, anew):
            return self._behind
        if number == 1 and anew is None and self.there[0]:
            return kept, second, True
        return False, False, self.bare_is_let and not more

    def is_run_in(self, number, anew):
        """Whether a call runs in the child of this number."""
        if anew is not None:
            return self.runs[anew] is not None
        return (number == 2) == self.link.startswith("new") and self.runs != (None, None)


class Fork:
    """Two rests, as in singles, into which the ways go on apart; None for a way that ends at the place."""

    def __init__(self, singles, rule):
        self.singles = singles
        self.goes = tuple([single is not None for single in singles])
        self.same = False
        self.there = tuple([single is not None and single[1] for single in singles])
        self.runs = tuple([None if single is None else single[2] for single in singles])
        anew = [sign for sign, single in zip("ab", singles) if single is not None and single[0]]
        self.link = "new " + "".join(anew) if anew else ""
        self.bare_is_let = BARE in rule.others

    def before(self, mark, words):
        """As for Shared."""
        kept = [mark if single is None else single[3][0] for single in self.singles]
        more = words or (mark and self.goes == (True, True))
        for single in self.singles:
            more = more or (single is not None and single[3][1])
        return self.goes == (False, False), kept[0], kept[1], more

    def left(self, children, anew):
        """As for Shared; where a way ends nothing is left of it here."""
        told = [self.left_of(call, children[call], anew) for call in (0, 1)]
        return told[0][0], told[1][0], told[0][1] and told[1][1]

    def left_of(self, call, number, anew):
        """Whether this call's word is kept behind the place then, and whether all else is well on its way there."""
        single = self.singles[call]
        if single is None:
            return False, True
        kept, more = single[3]
        if number == 0:
            return False, not more
        if single[2] is not None:
            return single[4]
        if anew is None and single[1]:
            return kept, True
        return False, self.bare_is_let and not more
