"""Plain searches through small trees, to compare with."""

import itertools

from lettertrees.errors import TreesError
from lettertrees.plays import play
from lettertrees.right import judged
from lettertrees.routines import Routine
from lettertrees.rules import Rule, known_rule


BOOLS = (False, True)
KINDS = list(itertools.product(BOOLS, BOOLS, (0, 1, 2)))
NAMES = ("plain", "joined", "bare", "free")
ONE_WAY = ("", "a", "aa", "aaa", "aaaa")


def all_words(letters, longest):
    return ["".join(signs) for length in range(longest + 1) for signs in itertools.product(letters, repeat=length)]


def drawn_rule(drawer):
    """Any rule: known ones, and such with any of the twelve kinds at either side, none and all of them, too."""
    choice = drawer.random.random()
    if choice < 0.4:
        return known_rule(drawer.random.choice(NAMES))
    chances = [drawer.random.choice((0.15, 0.4, 0.7, 1)) for _ in range(2)]
    return Rule(*[[kind for kind in KINDS if drawer.random.random() < chance] for chance in chances])


def small_trees(rule, letters="abc", most=3):
    """Lists of all trees of 1, 2 .. places, as far as they are not too many to be listed."""
    return [rule.trees(letters, size) for size in range(1, most + 1)]


def least_tree(rule, is_found, letters="abc", most=3, words=ONE_WAY):
    """The size of the least tree for which is_found(tree, word) holds with one of the words; None if there is none."""
    for trees in small_trees(rule, letters, most):
        for tree in trees:
            for word in words:
                if is_found(tree, word):
                    return tree.size
    return None


def is_wrong_on(routine, rule, wish):
    return lambda tree, word: judged(wish, rule, tree, word, play(tree, routine, word)) != "right"


def variants(routine, drawer):
    """Texts of a routine with one line left out, doubled or turned about, as far as they are routines."""
    lines = routine.text().split("\n")
    out = []
    for number, line in enumerate(lines):
        changed = [lines[:number] + lines[number + 1:], lines[:number + 1] + lines[number:]]
        for old, new in (("yes", "no"), (" no", " yes"), ("not ", ""), ("if ", "if not "), ("true", "false"),
                         ("false", "true"), ("== 0", "== 1"), ("== 0", "> 1"), (" or ", " and "), ("unmark", "mark"),
                         ("mark", "unmark"), ("cut", "unmark"), ("marked", "next"), ("at root", "f"), ("keep", "mark")):
            if old in line:
                changed.append(lines[:number] + [line.replace(old, new, 1)] + lines[number + 1:])
        for more in ("mark", "f = true", "keep", "stop", "return yes", "unmark"):
            blanks = line[:len(line) - len(line.lstrip())]
            changed.append(lines[:number] + [blanks + more] + lines[number:])
        for one in changed:
            try:
                out.append(Routine.read("\n".join(one)))
            except TreesError:
                pass
    return out
