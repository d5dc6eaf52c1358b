"""What calls of a routine do in a rest of a way, worked out from what they do in the rest behind its first place.

Places are told by words as in tables; "here" is the first place of the rest, until it gets the word that tells it
from above.
"""

from lettertrees.stays import NO_ENTRY, Stays, cut_here, entries_of, entry_of, own_of

# A place that was just made, as a cell and as a kind.
FRESH = (False, False, 0, False)
BARE = (False, False, 0)
NOTHING_BEHIND = (False, False, False, False, False, ())


class First:
    """The first place of a rest, and what the table of the rest behind it tells."""

    def __init__(self, cell, table, root):
        self.out = cell is None
        self.mark, self.flag, self.others, self.words_beside = FRESH if self.out else cell
        self.root = root
        self.own = table is None
        told = NOTHING_BEHIND if self.own else table
        self.follows, self.kept, self.more, self.marks, self.begun, doings = told
        self.doings = {entry: outcome for entry, outcome in doings}

    def before(self):
        """What is there ahead of the call, as a table tells it."""
        there = not self.out
        if self.own:
            return there, self.mark, self.words_beside, False, self.mark or self.words_beside
        more = self.mark or self.words_beside or self.more
        return there, self.kept, more, self.mark or self.marks, self.begun

    def place_word(self):
        """The word that tells this place from above."""
        if self.own:
            return "end"
        return "last" if self.mark and not self.marks else "other"

    def named(self, how):
        """How a call is behind the rest, with the word for this place that is used above."""
        if how[0] == "up" and self.root:
            return "end", "none"
        told = how[:2] if how[0] == "cut" else how
        return tuple([self.place_word() if part == "here" else part for part in told])


class Outcomes:
    """The tables of a routine and a rule."""

    def __init__(self, routine, rule):
        self.stays = Stays(routine)
        self.rule = rule
        self.entries = entries_of(routine)

    def table(self, cell, table, root):
        """The table of a rest, or of a whole way if its first place is the root."""
        first = First(cell, table, root)
        entries = [NO_ENTRY] if root else self.entries
        return first.before() + (tuple([(entry, self.outcome(first, entry)) for entry in entries]),)

    def outcome(self, first, entry):
        """What a call does that goes down into the rest with this entry."""
        spot = (first.root, first.own, first.others)
        how, row = self.stays.step("down", spot, (first.mark, first.flag, first.follows), own_of(entry))
        behind = None
        if how[0] == "down":
            told, *behind = first.doings[entry_of(how)]
            how, row = self.stays.rise(spot, row, how, told)
        how, row = cut_here(how, row)
        return (first.named(how),) + self.state(first, row, behind)

    def state(self, first, row, behind):
        """Whether the word is kept, the other words are those of before, and all kinds are let.

        row is what the first place has now; behind tells the rest behind if the call was there.
        """
        mark, flag, follows = row
        if not follows:
            kept, same, all_let = False, not first.more, True
        elif behind is not None:
            kept, same, all_let = behind
        elif first.follows:
            kept, same, all_let = first.kept, True, True
        else:
            kept, same, all_let = False, True, BARE in self.rule.others
        kinds = self.rule.root if first.root else self.rule.others
        children = min(2, first.others + 1) if follows else first.others
        here_let = (mark, flag, children) in kinds
        if first.own:
            return mark, True, here_let
        return kept, same and mark == first.mark, all_let and here_let
