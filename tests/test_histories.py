"""Promises [10] and [11] together: many calls one behind the other, other letters, and places off the way."""

import unittest

from lettertrees.plays import play, woven
from lettertrees.right import judged
from lettertrees.routines import Routine
from lettertrees.rules import known_rule
from lettertrees.trees import Tree
from lettertrees.wishes import wanted
from tests.drawing import Drawer
from tests.support import ALPHABET
from tests.test_plays import PUT, STRIKE, STRIKE_KEPT
from tests.test_right import BEGINS, HAS, LONGEST

JOINED_PUT = ("down:\n    if not next:\n        make\n    if at root or marked or not others == 0:\n        f = false\n"
              "    else:\n        f = true\nturn:\n    if marked:\n        return no\n    mark\n    f = false\n"
              "    return yes")
JOINED_STRIKE = ("turn:\n    if not at end or not marked:\n        return no\n    unmark\n    if at root:\n"
                 "        return yes\n    if others == 1:\n        f = true\n    if not others == 0:\n"
                 "        return yes\n"
                 "up:\n    cut\n    if at root or marked:\n        return yes\n    if others == 1:\n        f = true\n"
                 "    if not others == 0:\n        return yes")
LAZY_STRIKE = "turn:\n    if not at end or not marked:\n        return no\n    unmark\n    return yes"
READING = {"has": HAS, "longest": LONGEST}
HOUSES = {
    "up": ("plain", {**READING, "begins": BEGINS, "put": PUT, "strike": STRIKE}),
    "kept": ("plain", {**READING, "begins": BEGINS, "put": PUT, "strike": STRIKE_KEPT}),
    "joined": ("joined", {**READING, "begins": BEGINS, "put": JOINED_PUT, "strike": JOINED_STRIKE}),
    "lazy": ("bare", {**READING, "put": PUT, "strike": LAZY_STRIKE}),
}


def house(name):
    rule, texts = HOUSES[name]
    return known_rule(rule), {wish: Routine.read(text) for wish, text in texts.items()}


def renamed(value, change):
    """The value with all letters in its places changed; answers and ways stay as they are."""
    if isinstance(value, tuple) and len(value) == 2 and value[0] == "at":
        return ("at", value[1].translate(change))
    return value


class HistoriesTest(unittest.TestCase):
    def test_histories_of_many_calls(self):
        for number, name in enumerate(HOUSES):
            rule, routines = house(name)
            for letters, longest in (("ab", 4), ("cab", 3), (ALPHABET, 2)):
                drawer = Drawer(60 + number)
                tree, kept = Tree.of(letters, []), ()
                for _ in range(250):
                    wish, word = drawer.random.choice(list(routines)), drawer.word(letters[:4], longest)
                    trace = play(tree, routines[wish], word)
                    self.assertEqual(judged(wish, rule, tree, word, trace), "right", (name, wish, word, kept))
                    answer, kept = wanted(wish, kept, word)
                    self.assertEqual(trace.answer, answer)
                    tree = trace.tree
                    self.assertEqual(tuple(sorted(tree.words())), kept)
                    if rule.is_exact():
                        self.assertEqual(tree, rule.tree_of(letters, kept))

    def test_each_history_of_a_few_calls(self):
        for name in HOUSES:
            rule, routines = house(name)
            trees = [Tree.of("ab", [])]
            for _ in range(3):
                behind = []
                for tree in trees:
                    for wish, routine in routines.items():
                        for word in ("", "a", "ab", "b"):
                            trace = play(tree, routine, word)
                            self.assertEqual(judged(wish, rule, tree, word, trace), "right")
                            if trace.tree not in behind:
                                behind.append(trace.tree)
                trees = behind
            # So many sets of at most three of the four words are met.
            self.assertGreaterEqual(len(trees), 15)

    def test_histories_with_a_call_that_is_not_right(self):
        # The lazy strike leaves a bare leaf, which plain does not let; and the next call meets it.
        plain, routines = house("up")
        lazy = Routine.read(LAZY_STRIKE)
        tree = play(Tree.of("ab", []), routines["put"], "ab").tree
        trace = play(tree, lazy, "ab")
        self.assertEqual(judged("strike", plain, tree, "ab", trace), "rule")
        self.assertEqual(judged("strike", known_rule("bare"), tree, "ab", trace), "right")
        self.assertEqual(judged("begins", plain, trace.tree, "a", play(trace.tree, routines["begins"], "a")), "answer")
        # Putting over it makes all well again.
        again = play(trace.tree, routines["put"], "ab")
        self.assertEqual(judged("put", plain, trace.tree, "ab", again), "right")
        self.assertEqual(again.tree, tree)

    def test_other_letters(self):
        drawer = Drawer(71)
        for number in range(600):
            tree, routine, word = drawer.tree("abc", 9), drawer.routine(1 + number % 8, 3), drawer.word("abc", 4)
            letters = "".join(drawer.random.sample(ALPHABET, 3 + number % 5))
            change = str.maketrans("abc", letters[:3])
            other = Tree(letters, [(place.translate(change), mark, flag) for place, mark, flag in tree.rows])
            trace, told = play(tree, routine, word), play(other, routine, word.translate(change))
            self.assertEqual(told.steps, tuple((place.translate(change), way) for place, way in trace.steps))
            self.assertEqual((told.answer, told.kind), (renamed(trace.answer, change), trace.kind))
            self.assertEqual(told.tree, Tree(letters, [(place.translate(change), mark, flag)
                                                       for place, mark, flag in trace.tree.rows]))
            for wish in ("has", "put", "strike", "begins", "longest"):
                rule = known_rule("joined")
                self.assertEqual(judged(wish, rule, other, word.translate(change), told),
                                 judged(wish, rule, tree, word, trace))
            # In another order the letters are the same ones.
            turned = play(Tree("cba", tree.rows), routine, word)
            self.assertEqual((turned.steps, turned.answer, turned.kind), (trace.steps, trace.answer, trace.kind))
            self.assertEqual(turned.tree, Tree("cba", trace.tree.rows))

    def test_a_place_more_off_the_way(self):
        drawer = Drawer(72)
        for number in range(600):
            tree, routine, word = drawer.tree("abcd", 9), drawer.routine(1 + number % 8, 3), drawer.word("abcd", 4)
            trace = play(tree, routine, word)
            for place, _, _ in tree.rows:
                for letter in "abcd":
                    more = (place + letter, drawer.random.random() < 0.5, drawer.random.random() < 0.5)
                    others = tree.below(place).replace(word[len(place):len(place) + 1] or "-", "")
                    # Nothing tells three others from two.
                    off = not word.startswith(place) or (not word.startswith(more[0]) and len(others) >= 2)
                    if tree.has(more[0]) or not off:
                        continue
                    told = play(Tree("abcd", tree.rows + (more,)), routine, word)
                    self.assertEqual((told.steps, told.answer, told.kind), (trace.steps, trace.answer, trace.kind))
                    cut = not trace.tree.has(place)
                    self.assertEqual(told.tree, trace.tree if cut else Tree("abcd", trace.tree.rows + (more,)))

    def test_words_beside_one_another_do_not_touch(self):
        # Below different children of the root two calls do what they do alone, however they are woven.
        drawer = Drawer(73)
        rule, routines = house("up")
        for _ in range(300):
            tree = rule.tree_of("ab", [word for word in ("", "a", "ab", "aa", "b", "bb",
                                                         "ba") if drawer.random.random() < 0.5])
            one, other = [drawer.random.choice(["put", "has"]) for _ in range(2)]
            word, second = "a" + drawer.word("ab", 2), "b" + drawer.word("ab", 2)
            first = play(tree, routines[one], word)
            both = play(first.tree, routines[other], second)
            signs = "a" * len(first.steps) + "b" * len(both.steps)
            order = "".join(drawer.random.sample(signs, len(signs)))
            told = woven(tree, routines[one], word, routines[other], second, order)
            self.assertEqual(told.order, order)
            self.assertEqual((told.answers, told.kinds, told.tree),
                             ((first.answer, both.answer), (None, None), both.tree))


if __name__ == "__main__":
    unittest.main()
