"""What calls of a routine do in a rest of a way, worked out from what they do in the rest behind its first place.

Places are told by words as in tables; "here" is the first place of the rest, until it gets the word that tells it
from above. What a stay at a place leaves is a tuple (mark, flag, next, x, y, p, here) of facts.
"""

from lettertrees.doing import GO_DOWN, STOP, come_down, do_block

BOOLS = (False, True)
# A place that was just made, as a cell and as a kind.
FRESH = (False, False, 0, False)
BARE = (False, False, 0)
NOTHING_BEHIND = (False, False, False, False, False, ())


def entries_of(routine):
    """The list of all entries (x, y, kept) of a routine, ascending."""
    names = routine.names()
    xs, ys, ps = [BOOLS if name in names else (False,) for name in ("x", "y", "p")]
    return [(x, y, kept) for x in xs for y in ys for kept in ps]


def word_of_p(left):
    """The word for p behind a stay where the call came down."""
    kept, here = left[5:]
    if here:
        return "here"
    return "above" if kept else "none"


def answer_word(answer, kept):
    """The word for the answer of a return, kept being the word for p."""
    if answer == "node":
        return "here"
    return kept if answer == "p" else answer


class First:
    """The first place of a rest, and what the table of the rest behind it tells."""

    def __init__(self, cell, table, root):
        self.out = cell is None
        self.mark, self.flag, self.others, self.words_beside = FRESH if self.out else cell
        self.root = root
        self.own = table is None
        told = NOTHING_BEHIND if self.own else table
        self.follows, self.kept, self.more, self.marks, self.begun, doings = told
        self.doings = {entry: outcome for entry, outcome in doings}

    def before(self):
        """What is there ahead of the call, as a table tells it."""
        there = not self.out
        if self.own:
            return there, self.mark, self.words_beside, False, self.mark or self.words_beside
        more = self.mark or self.words_beside or self.more
        return there, self.kept, more, self.mark or self.marks, self.begun

    def place_word(self):
        """The word that tells this place from above."""
        if self.own:
            return "end"
        return "last" if self.mark and not self.marks else "other"


class Outcomes:
    """The tables of a routine and a rule.

    What is done at one place is kept by what the call meets there: it does so in few ways, however many tables
    there are.
    """

    def __init__(self, routine, rule):
        self.routine = routine
        self.rule = rule
        self.entries = entries_of(routine)
        self.known = {}

    def table(self, cell, table, root):
        """The table of a rest, or of a whole way if its first place is the root."""
        first = First(cell, table, root)
        entries = [(False, False, False)] if root else self.entries
        return first.before() + (tuple([(entry, self.outcome(first, entry)) for entry in entries]),)

    def done(self, way, first, left):
        """The ending of a stay at the first place, and what it leaves, left being what it meets."""
        key = (way, first.others, first.root, first.own) + left
        if key not in self.known:
            mark, flag, follows, x, y, kept, here = left
            facts = {
                "mark": mark, "f": flag, "x": x, "y": y, "root": first.root, "ends": first.own, "next": follows,
                "others": first.others, "p": kept, "here": here, "true": True,
            }
            ending = come_down(self.routine, facts) if way == "down" else do_block(self.routine.up, facts)
            behind = [facts[name] for name in ("mark", "f", "next", "x", "y", "p", "here")]
            self.known[key] = (ending, tuple(behind))
        return self.known[key]

    def outcome(self, first, entry):
        """What a call does that goes down into the rest with this entry."""
        ending, left = self.done("down", first, (first.mark, first.flag, first.follows) + entry + (False,))
        kept = word_of_p(left)
        behind = None
        if ending == GO_DOWN:
            how, *behind = first.doings[left[3:6]]
            if how[0] == "up":
                kept = kept if how[3] == "above" else how[3]
                met = left[:3] + how[1:3] + (kept != "none", kept == "here")
                ending, left = self.done("up", first, met)
                how = self.how_left(ending, left, kept)
            else:
                how = (how[0], kept if how[1] == "above" else how[1])
        else:
            how = self.how_left(ending, left, kept)
        mark, flag, follows = left[:3]
        if how[0] == "cut" and kept == "here":
            how = ("end", how[1]) if follows else ("misuse", "none")
            follows = False
        return (self.named(first, how),) + self.state(first, (mark, flag), follows, behind)

    def how_left(self, ending, left, kept):
        """How the call is behind the last stay at the first place, kept being the word for p."""
        if ending is None and self.routine.up:
            return "up", left[3], left[4], kept
        if ending is None or ending == STOP:
            return "end", "none"
        if ending[0] == "misuse":
            return ending
        if len(ending) == 3 and kept == "none":
            return "misuse", "p"
        return "cut" if len(ending) == 3 else "end", answer_word(ending[1], kept)

    def named(self, first, how):
        """The how of an outcome, with the word for the first place that is used above."""
        if how[0] == "up" and first.root:
            return "end", "none"
        return tuple([first.place_word() if part == "here" else part for part in how])

    def state(self, first, row, follows, behind):
        """Whether the word is kept, the other words are those of before, and all kinds are let.

        row is the first place's mark and flag now, follows whether its next child is there; behind tells the rest
        behind if the call was there.
        """
        mark, flag = row
        if not follows:
            kept, same, all_let = False, not first.more, True
        elif behind is not None:
            kept, same, all_let = behind
        elif first.follows:
            kept, same, all_let = first.kept, True, True
        else:
            kept, same, all_let = False, True, BARE in self.rule.others
        kinds = self.rule.root if first.root else self.rule.others
        children = min(2, first.others + 1) if follows else first.others
        here_let = (mark, flag, children) in kinds
        if first.own:
            return mark, True, here_let
        return kept, same and mark == first.mark, all_let and here_let
