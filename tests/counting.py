"""Plain counts of steps and of sets, to compare with."""

import itertools
from fractions import Fraction

from lettertrees.calls import Call, root_of
from lettertrees.plays import play
from lettertrees.right import judged
from lettertrees.rules import Rule
from tests.searching import BOOLS, all_words


def exact_rule_of(drawer):
    """Any exact rule."""
    root = [(mark, drawer.random.random() < 0.5, many) for mark in BOOLS for many in (0, 1, 2)]
    others = [(mark, drawer.random.random() < 0.5, many) for mark in BOOLS for many in (0, 1, 2)]
    return Rule([(False, False, 0)] + root[1:], others[1:])


def plain_survey(routine, rule, letters, length, many):
    """(mean of steps, mean of places, dict of ends, dict of chances to be wrong), all as Fractions."""
    words = ["".join(signs) for signs in itertools.product(letters, repeat=length)]
    steps, places, ends, wrong, total = 0, 0, {}, {}, 0
    for kept in itertools.combinations(words, many):
        tree = rule.tree_of(letters, kept)
        for word in words:
            trace = play(tree, routine, word)
            total += 1
            steps += len(trace.steps)
            places += tree.size
            answer = ("at", len(trace.answer[1])) if isinstance(trace.answer, tuple) else trace.answer
            ends[(answer, trace.kind)] = ends.get((answer, trace.kind), 0) + 1
            for wish in ("has", "put", "strike", "begins", "longest"):
                if judged(wish, rule, tree, word, trace) != "right":
                    wrong[wish] = wrong.get(wish, 0) + 1
    return (Fraction(steps, total), Fraction(places, total), {end: Fraction(ends[end], total) for end in ends},
            {wish: Fraction(wrong.get(wish, 0), total) for wish in ("has", "put", "strike", "begins", "longest")})


def plain_wrong_pairs(routine, rule, wish, letters, size, longest):
    many = 0
    for tree in rule.trees(letters, size):
        for word in all_words(letters, longest):
            many += judged(wish, rule, tree, word, play(tree, routine, word)) != "right"
    return many


def most_steps(routine, rule, size, trees):
    """The greatest number of steps of a call with a word of so many letters, all by the letter a, on these trees."""
    found = [len(play(tree, routine, "a" * size).steps) for tree in trees]
    return max(found) if found else None


def unflagged_steps(tree, routine, word):
    """How many steps of a play begin at a place without a flag."""
    call = Call(routine, word, root_of(tree))
    many = 0
    while call.ahead is not None:
        place = call.kept if call.ahead == "cut" else call.passed[-1]
        flag = place.flag
        call.step()
        many += not flag
    return many
