"""Drawn routines, trees and words: the same ones in each run."""

import random

from lettertrees.routines import Routine
from lettertrees.trees import Tree

LEAVES = [("mark",), ("f",), ("x",), ("y",), ("root",), ("ends",), ("next",), ("others", 0), ("others", 1),
          ("others", 2), ("p",), ("here",), ("true",)]
PLAIN = [("mark",), ("unmark",), ("set", "f", True), ("set", "f", False), ("set", "x", True), ("set", "x", False),
         ("set", "y", True), ("set", "y", False)]
RETURNS = [("return", answer) for answer in ("yes", "no", "node", "p")]
CUTS = [("return", answer, "cut") for answer in ("yes", "no", "node", "p")]
LET = {
    "down": PLAIN + [("make",), ("keep",), ("stop",)] + RETURNS,
    "turn": PLAIN + [("cut",), ("keep",)] + RETURNS + CUTS,
    "up": PLAIN + [("cut",), ("stop",)] + RETURNS,
}
NAMED = {"p": [("keep",), ("p",), ("here",), ("return", "p")] + CUTS,
         "x": [("x",), ("set", "x", True), ("set", "x", False)],
         "y": [("y",), ("set", "y", True), ("set", "y", False)]}


class Drawer:
    def __init__(self, seed, names="pxy"):
        self.random = random.Random(seed)
        self.barred = [one for name, ones in NAMED.items() if name not in names for one in ones]

    def one_of(self, choices):
        return self.random.choice([one for one in choices if one not in self.barred])

    def test(self, deep):
        kind = self.random.random()
        if deep == 1 or kind < 0.4:
            return self.one_of(LEAVES)
        if kind < 0.6:
            return ("not", self.test(deep - 1))
        return (self.random.choice(["and", "or"]), self.test(deep - 1), self.test(deep - 1))

    def block(self, name, most, deep, least=0):
        """At most so many statements, ifs standing at most so deep within one another."""
        out = []
        while most > 0 and (len(out) < least or self.random.random() < 0.7):
            statement, many = self.statement(name, most, deep)
            out.append(statement)
            most -= many
        return out

    def statement(self, name, most, deep):
        if deep == 0 or most < 2 or self.random.random() < 0.5:
            return self.one_of(LET[name]), 1
        first = self.block(name, (most - 1) // 2 or 1, deep - 1, 1)
        second = self.block(name, most - 1 - count(first), deep - 1)
        return ("if", self.test(3), first, second), 1 + count(first) + count(second)

    def routine(self, most=5, deep=2):
        return Routine(*[self.block(name, most, deep) for name in ("down", "turn", "up")])

    def word(self, letters, longest):
        return "".join(self.random.choice(letters) for _ in range(self.random.randint(0, longest)))

    def tree(self, letters, size):
        """Any tree of at most so many places."""
        places = [""]
        for _ in range(self.random.randint(0, size - 1)):
            place = self.random.choice(places) + self.random.choice(letters)
            if place not in places:
                places.append(place)
        return Tree(letters, [(place, self.random.random() < 0.5, self.random.random() < 0.5) for place in places])


def count(block):
    """How many statements stand in a block."""
    return sum(1 + (count(one[2]) + count(one[3]) if one[0] == "if" else 0) for one in block)
