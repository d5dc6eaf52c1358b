"""What calls do on the trees of all sets of so many words of one length, each set and each word counting alike.

All words fare alike, so one is looked at. How many kept words lie below each place of its way tells which children are
there, and how many such sets there are. An outcome is (how, steps, kept, more, then, same, whole): how the call comes
out of a rest, places being told as ("at", length), and its steps there; whether the word, and whether others, are kept
in the rest before; whether the word is then, the others are as before, and all kinds are let.
"""

from math import comb

from lettertrees.outcomes import BARE
from lettertrees.rules import flags_let
from lettertrees.stays import NO_ENTRY, Stays, entry_of, own_of


def power(base, exponent):
    """The base, so many times by itself."""
    out = 1
    for _ in range(exponent):
        out = out * base
    return out


class Sets:
    """The numbers of sets of words of one length over so many letters."""

    def __init__(self, letters, length):
        self.letters = letters
        self.length = length

    def words(self, depth):
        """How many words begin with a word of this depth's length."""
        return power(self.letters, self.length - depth)

    def sets_beside(self, depth, many):
        """A dict from 0, 1 and 2 children beside the way to the numbers of sets of so many words below them."""
        if many == 0:
            return {0: 1}
        beside = self.letters - 1
        single = beside * comb(self.words(depth + 1), many)
        numbers = {1: single, 2: comb(beside * self.words(depth + 1), many) - single}
        return {others: numbers[others] for others in numbers if numbers[others] > 0}


def add_all(counts, more, number):
    """Add to counts what another dict counts, so many times."""
    for outcome in more:
        counts[outcome] = counts.get(outcome, 0) + more[outcome] * number


class Counts:
    """The numbers of sets for which a call of a routine comes out so or so, by outcomes."""

    def __init__(self, routine, rule, sets):
        self.stays = Stays(routine)
        self.rule = rule
        self.sets = sets
        self.known = {}

    def rests(self, depth, many, entry):
        """A dict from outcomes to numbers of sets of so many words that begin with the way's place of this depth.

        entry is that with which the call goes down there, None if it does not.
        """
        key = (depth, many, entry)
        if key not in self.known:
            if entry is None:
                self.known[key] = self.passed_by(depth, many)
            elif depth == self.sets.length:
                self.known[key] = self.at_end(depth, many, entry)
            else:
                self.known[key] = self.gone_through(depth, many, entry)
        return self.known[key]

    def wholes(self, many):
        """The same for the root and all sets of so many words."""
        return self.rests(0, many, NO_ENTRY)

    def passed_by(self, depth, many):
        others = self.sets.words(depth) - 1
        out = {}
        if many > 0:
            out[(None, 0, True, many > 1, True, True, True)] = comb(others, many - 1)
        out[(None, 0, False, many > 0, False, True, True)] = comb(others, many)
        return {outcome: out[outcome] for outcome in out if out[outcome] > 0}

    def flag_at(self, root, mark, children):
        return flags_let(self.rule.root if root else self.rule.others, mark, children)[0]

    def at_end(self, depth, many, entry):
        kept = many == 1
        flag = self.flag_at(False, True, 0) if kept else False
        how, row, flags = self.stays.visit((False, True, 0), (kept, flag, False), entry, None)
        is_let = (row[0], row[1], 0) in self.rule.others
        return {(self.told(how, depth), len(flags), kept, False, row[0], True, is_let): 1}

    def gone_through(self, depth, many, entry):
        root = depth == 0
        gathered = {}
        for below in range(min(many, self.sets.words(depth + 1)) + 1):
            numbers = self.sets.sets_beside(depth, many - below)
            for others in numbers:
                is_there = root or many > 0
                flag = is_there and self.flag_at(root, False, min(2, others + (1 if below > 0 else 0)))
                met = ((root, False, others), (False, flag, below > 0))
                how, _ = self.stays.step("down", met[0], met[1], own_of(entry))
                gone = entry_of(how) if how[0] == "down" else None
                add_all(gathered.setdefault((met, gone), {}), self.rests(depth + 1, below, gone), numbers[others])
        out = {}
        for (spot, row), gone in gathered:
            behind = gathered[((spot, row), gone)]
            for outcome in behind:
                run = None if gone is None else (gone, outcome[0])
                told = self.outcome_above(depth, spot, row, self.stays.visit(spot, row, entry, run), outcome)
                add_all(out, {told: behind[outcome]}, 1)
        return out

    def outcome_above(self, depth, spot, before, visit, behind):
        """The outcome of a rest whose first place is met so, and visited so, behind being that of the rest behind."""
        how, row, flags = visit
        root, _, others = spot
        told_behind, steps, kept, more, then, same, all_let = behind
        if not row[2]:
            then, same, all_let = False, not more, True
        elif told_behind is None and not before[2]:
            then, same, all_let = False, True, BARE in self.rule.others
        kind = (row[0], row[1], min(2, others + 1) if row[2] else others)
        here_let = kind in (self.rule.root if root else self.rule.others)
        return (self.told(how, depth), steps + len(flags), kept, more or others > 0, then, same and not row[0],
                all_let and here_let)

    def told(self, how, depth):
        """How a call is behind the rest, with the length that tells its first place."""
        if how[0] == "up" and depth == 0:
            return "end", "none"
        return tuple([("at", depth) if part == "here" else part for part in (how[:2] if how[0] == "cut" else how)])
