"""Promise [11]: what a wish asks of a play."""

import itertools
import unittest

from lettertrees.errors import BadWish
from lettertrees.plays import play
from lettertrees.right import judged
from lettertrees.routines import Routine
from lettertrees.rules import Rule, kind_of, known_rule
from lettertrees.trees import Tree
from lettertrees.wishes import wanted
from tests.drawing import Drawer
from tests.support import TreesCase, odd_values
from tests.test_plays import PUT, STRIKE, STRIKE_KEPT

WISHES = ("has", "put", "strike", "begins", "longest")
HAS = "turn:\n    if at end and marked:\n        return yes\n    return no"
BEGINS = ("turn:\n    if not at end:\n        return no\n    if at root and not marked and others == 0:\n"
          "        return no\n    return yes")
LONGEST = "down:\n    if marked:\n        keep\nturn:\n    if marked:\n        keep\n    return p"
ROUTINES = {"has": HAS, "put": PUT, "strike": STRIKE, "begins": BEGINS, "longest": LONGEST}
KINDS = list(itertools.product((False, True), (False, True), (0, 1, 2)))
ALL, NONE, PLAIN = known_rule("free"), Rule([], []), known_rule("plain")


class JudgedTest(TreesCase):
    def told(self, wish, rule, tree, word, blocks):
        routine = Routine.read(blocks) if isinstance(blocks, str) else Routine(*blocks)
        return judged(wish, rule, tree, word, play(tree, routine, word))

    def test_right_ones(self):
        trees = [PLAIN.tree_of("ab", words) for words in ([], [""], ["a"], ["", "ab", "b"], ["ab", "aba", "abb", "ba"])]
        for wish, text in ROUTINES.items():
            for tree in trees:
                for word in ("", "a", "b", "ab", "aba", "abab", "bb"):
                    for rule in (PLAIN, ALL, known_rule("bare")):
                        self.assertEqual(self.told(wish, rule, tree, word, text), "right", (wish, tree.words(), word))
        for tree in trees:
            for word in ("", "a", "ab", "aba"):
                self.assertEqual(self.told("strike", PLAIN, tree, word, STRIKE_KEPT), "right")

    def test_a_misuse(self):
        tree = Tree.of("ab", ["a"])
        for wish in WISHES:
            for rule in (ALL, NONE, PLAIN):
                self.assertEqual(self.told(wish, rule, tree, "a", ([("make",)], [], [])), "misuse")
                self.assertEqual(self.told(wish, rule, tree, "a", ([], [("cut",)], [])), "misuse")
                self.assertEqual(self.told(wish, rule, tree, "b", ([], [("return", "no", "cut")], [])), "misuse")
                self.assertEqual(self.told(wish, rule, tree, "a", ([], [("keep",), ("return", "yes", "cut")], [])),
                                 "misuse")

    def test_another_answer(self):
        tree = Tree.of("ab", ["a", "ab"])
        put = PUT.replace("yes", "maybe").replace("no\n", "yes\n").replace("maybe", "no")
        for word in ("a", "b", "aba"):
            self.assertEqual(self.told("put", PLAIN, tree, word, put), "answer")
        for wish, word, right in (("has", "a", "yes"), ("has", "b", "no"), ("begins", "", "yes"),
                                  ("begins", "b", "no")):
            for answer in ("yes", "no", "node", "p"):
                told = self.told(wish, PLAIN, tree, word, ([], [("keep",), ("return", answer)], []))
                self.assertEqual(told, "right" if answer == right else "answer")
            self.assertEqual(self.told(wish, PLAIN, tree, word, ([], [], [])), "answer")

    def test_answers_that_are_places(self):
        tree = Tree.of("ab", ["a", "ab"])
        for word, place in (("aba", "ab"), ("ab", "ab"), ("aa", "a"), ("a", "a")):
            self.assertEqual(wanted("longest", tree.words(), word)[0], ("at", place))
            self.assertEqual(self.told("longest", PLAIN, tree, word, LONGEST), "right")
            self.assertEqual(self.told("longest", PLAIN, tree, word, ([], [("return", "node")], [])), "right")
            self.assertEqual(self.told("longest", PLAIN, tree, word, ([("stop",)], [("return", "node")], [])), "answer")
            self.assertEqual(self.told("longest", PLAIN, tree, word, ([], [], [])), "answer")
            self.assertEqual(self.told("longest", PLAIN, tree, word, ([], [("return", "yes")], [])), "answer")
        # The place is there, but no word is kept at it.
        self.assertEqual(self.told("longest", PLAIN, tree, "b", ([], [("return", "node")], [])), "answer")
        self.assertEqual(self.told("longest", PLAIN, tree, "b", ([], [("return", "p")], [])), "right")
        self.assertEqual(self.told("longest", PLAIN, Tree.of("ab", ["", "ab"]), "b", ([], [("return", "node")], [])),
                         "right")
        self.assertEqual(self.told("longest", PLAIN, Tree.of("ab", ["", "ab"]), "a", ([], [("return", "node")], [])),
                         "answer")

    def test_other_words(self):
        tree = Tree.of("ab", ["a", "ab"])
        self.assertEqual(self.told("has", PLAIN, tree, "ab", ([], [("unmark",), ("return", "yes")], [])), "words")
        self.assertEqual(self.told("has", PLAIN, tree, "ab", ([("mark",)], [("return", "yes")], [])), "words")
        self.assertEqual(self.told("strike", PLAIN, tree, "ab", ([], [("return", "yes")], [])), "words")
        self.assertEqual(self.told("put", PLAIN, tree, "b", ([], [("return", "yes")], [])), "words")
        self.assertEqual(self.told("begins", PLAIN, tree, "a", ([("stop",)], [("cut",), ("return", "yes")], [])),
                         "words")
        self.assertEqual(self.told("longest", PLAIN, tree, "a",
                                   ([("keep",)], [("keep",), ("unmark",), ("return", "p")], [])),
                         "words")
        # The same many words, but others.
        self.assertEqual(self.told("has", PLAIN, tree, "ab", ([("if", ("root",), [("mark",)], [("unmark",)])],
                                                              [("return", "yes")], [])), "words")

    def test_the_rule_is_not_kept(self):
        tree = Tree.of("ab", ["ab"])
        unmark = "turn:\n    if at end and marked:\n        unmark\n        return yes\n    return no"
        self.assertEqual(self.told("strike", PLAIN, tree, "ab", unmark), "rule")
        self.assertEqual(self.told("strike", known_rule("bare"), tree, "ab", unmark), "right")
        self.assertEqual(self.told("strike", PLAIN, Tree.of("ab", [""]), "", unmark), "right")
        for wish in WISHES:
            answer = wanted(wish, ["ab"], "ab")[0]
            text = ROUTINES[wish]
            self.assertEqual(self.told(wish, ALL, tree, "ab", text), "right", (wish, answer))
            self.assertEqual(self.told(wish, NONE, tree, "ab", text), "rule")
        # The tree behind the call counts, not the one ahead of it.
        flagged = Tree("ab", [("", False, True), ("a", True, False)])
        self.assertEqual(self.told("has", PLAIN, flagged, "a", HAS), "rule")
        self.assertEqual(self.told("has", PLAIN, flagged, "a", "down:\n    f = false\n" + HAS), "right")

    def test_the_first_one_that_is_due(self):
        tree = Tree.of("ab", ["a"])
        spoil = [("unmark",), ("set", "f", True)]
        for rule in (PLAIN, NONE):
            self.assertEqual(self.told("has", rule, tree, "a", ([], spoil + [("cut",)], [])), "misuse")
            self.assertEqual(self.told("has", rule, tree, "a", ([], spoil + [("return", "no")], [])), "answer")
            self.assertEqual(self.told("has", rule, tree, "a", ([], spoil + [("return", "yes")], [])), "words")
            self.assertEqual(self.told("strike", rule, tree, "a", ([], spoil + [("return", "yes")], [])), "rule")
            self.assertEqual(self.told("strike", rule, tree, "a", ([], spoil, [])), "answer")

    def test_against_what_is_told_of_it(self):
        drawer = Drawer(31)
        seen = {}
        for number in range(4000):
            routine, tree, word = drawer.routine(1 + number % 6), drawer.tree("ab", 6), drawer.word("ab", 3)
            kinds = [kind for kind in KINDS if drawer.random.random() < 0.8]
            rule = Rule(kinds, kinds[::-1])
            trace = play(tree, routine, word)
            for wish in WISHES:
                answer, words = wanted(wish, tree.words(), word)
                due = [("misuse", trace.kind is not None), ("answer", trace.answer != answer),
                       ("words", sorted(trace.tree.words()) != list(words)),
                       ("rule", any(kind_of(trace.tree, row[0]) not in kinds for row in trace.tree.rows)),
                       ("right", True)]
                told = judged(wish, rule, tree, word, trace)
                self.assertEqual(told, [name for name, holds in due if holds][0])
                seen[wish, told] = seen.get((wish, told), 0) + 1
        self.assertEqual(set(seen), set(itertools.product(WISHES, ("misuse", "answer", "words", "rule", "right"))))

    def test_values_that_are_no_wish(self):
        tree = Tree.of("ab", ["a"])
        traces = [play(tree, routine, "a") for routine in (Routine.read(HAS), Routine([("make",)], [], []))]
        for wish in odd_values() + ["", "a", "Has", "right", 0, 1, True, ["has"], {"has": 1}, Routine([], [], [])]:
            for trace in traces:
                self.assert_error(BadWish, {"name": wish}, judged, wish, PLAIN, tree, "a", trace)

    def test_defined_in_its_file(self):
        self.assertEqual(judged.__module__, "lettertrees.right")


if __name__ == "__main__":
    unittest.main()
