"""Promise [8]: what is asked."""

import copy
import itertools
import unittest

from lettertrees import wishes
from lettertrees.errors import BadWish
from lettertrees.routines import Routine
from lettertrees.wishes import wanted
from tests.support import TreesCase, odd_values

WISHES = ("has", "put", "strike", "begins", "longest")
WORDS = ["", "a", "b", "aa", "ab", "ba", "aba"]


def plainly_wanted(name, words, word):
    """The same, told by sets and going over all beginnings."""
    kept = set(words)
    if name == "put":
        return ("no" if word in kept else "yes"), tuple(sorted(kept | {word}))
    if name == "strike":
        return ("yes" if word in kept else "no"), tuple(sorted(kept - {word}))
    behind = tuple(sorted(kept))
    if name == "has":
        return ("yes" if word in kept else "no"), behind
    if name == "begins":
        return ("yes" if any(one[:len(word)] == word for one in kept) else "no"), behind
    found = [word[:length] for length in range(len(word), -1, -1) if word[:length] in kept]
    return (("at", found[0]) if found else None), behind


class WishesTest(TreesCase):
    def test_the_example_of_the_document(self):
        self.assertEqual(
            [wanted("put", ["b", "a"], "ab"), wanted("strike", ["a"], "b"), wanted("begins", ["ab"], "a")[0],
             wanted("longest", ["", "ab"], "aba")[0]],
            [("yes", ("a", "ab", "b")), ("no", ("a",)), "yes", ("at", "ab")])

    def test_no_words(self):
        for word in ("", "a", "ab"):
            self.assertEqual([wanted(name, [], word) for name in WISHES],
                             [("no", ()), ("yes", (word,)), ("no", ()), ("no", ()), (None, ())])

    def test_the_empty_word(self):
        self.assertEqual([wanted(name, [""], "") for name in WISHES],
                         [("yes", ("",)), ("no", ("",)), ("yes", ()), ("yes", ("",)), (("at", ""), ("",))])
        self.assertEqual([wanted(name, ["b"], "") for name in WISHES],
                         [("no", ("b",)), ("yes", ("", "b")), ("no", ("b",)), ("yes", ("b",)), (None, ("b",))])
        self.assertEqual([wanted(name, [""], "b") for name in WISHES],
                         [("no", ("",)), ("yes", ("", "b")), ("no", ("",)), ("no", ("",)), (("at", ""), ("",))])

    def test_words_along_the_way_and_beside(self):
        words = ["b", "a", "abc", "abd", ""]
        self.assertEqual([wanted(name, words, "ab")[0] for name in WISHES], ["no", "yes", "no", "yes", ("at", "a")])
        self.assertEqual([wanted(name, words, "abc")[0] for name in WISHES], ["yes", "no", "yes", "yes", ("at", "abc")])
        self.assertEqual([wanted(name, words, "ba")[0] for name in WISHES], ["no", "yes", "no", "no", ("at", "b")])
        self.assertEqual(wanted("longest", ["b", "ab", "aab"], "aa"), (None, ("aab", "ab", "b")))

    def test_all_small_sets(self):
        for many in range(4):
            for words in itertools.permutations(WORDS, many):
                for word in WORDS + ["abab", "bb"]:
                    for name in WISHES:
                        told = wanted(name, list(words), word)
                        self.assertEqual(told, plainly_wanted(name, words, word), (name, words, word))
                        self.assertEqual(wanted(name, words, word), told)

    def test_arguments_are_not_changed(self):
        for name in WISHES:
            words = ["b", "", "ab"]
            wanted(name, words, "ab")
            wanted(name, words, "a")
            self.assertEqual(words, ["b", "", "ab"])
            told = ("b", "", "ab")
            wanted(name, told, "ab")
            self.assertEqual(told, ("b", "", "ab"))

    def test_kinds_of_the_values(self):
        for name in WISHES:
            told = wanted(name, ["b", "a"], "b")
            self.assertIs(type(told), tuple)
            self.assertEqual(len(told), 2)
            self.assertIs(type(told[1]), tuple)
        self.assertIs(type(wanted("longest", ["b"], "b")[0]), tuple)

    def test_ascending_as_strings_whatever_the_letters(self):
        for name, behind in (("has", ("a", "aa", "b", "ba")), ("put", ("a", "aa", "b", "ba", "bb")),
                             ("strike", ("a", "aa", "b", "ba"))):
            self.assertEqual(wanted(name, ["ba", "b", "aa", "a"], "bb")[1], behind)
        self.assertEqual(wanted("strike", ["ba", "b", "aa", "a"], "b")[1], ("a", "aa", "ba"))

    def test_values_that_are_no_wish(self):
        wrong = odd_values() + ["", "a", "Has", "has ", "hasput", "keep", 0, 1, True, ["has"], ("has",), {"has": 1},
                                [[], {}], Routine([], [], []), b"has"]
        for name in wrong:
            before = copy.copy(name)
            self.assert_error(BadWish, {"name": name}, wanted, name, ["a"], "a")
            self.assertIs(type(before), type(name))

    def test_defined_in_its_file(self):
        self.assertEqual(wanted.__module__, "lettertrees.wishes")
        self.assertIs(wishes.wanted, wanted)


if __name__ == "__main__":
    unittest.main()
