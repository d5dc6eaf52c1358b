"""Promise [6]: trees by letters, with the conventions of [2] and [3] that they show."""

import copy
import itertools
import unittest

from lettertrees.errors import BadLetters, BadRow, BadWord, Lone, NoPlace, TooMany
from lettertrees.rules import Rule
from lettertrees.trees import Tree
from tests.support import ALPHABET, TreesCase, first_places, odd_values


def bare_rows(places):
    return [(place, False, False) for place in places]


class TreeTest(TreesCase):
    def sample(self):
        return Tree("ba", [("", False, False), ["b", True, False], ("ab", True, False), ("a", False, False)])

    def test_the_example_of_the_document(self):
        tree = self.sample()
        self.assertEqual(
            [tree.size, tree.height, tree.words(), tree.below(""), tree.row("a"), [row[0] for row in tree.rows]],
            [4, 2, ("b", "ab"), "ba", ("a", False, False), ["", "b", "a", "ab"]])

    def test_kinds_of_the_values(self):
        tree = self.sample()
        self.assertEqual(tree.letters, "ba")
        self.assertIs(type(tree.rows), tuple)
        self.assertTrue(all(type(row) is tuple for row in tree.rows))
        self.assertIs(type(tree.row("b")), tuple)
        self.assertEqual(tree.row("b"), ("b", True, False))
        self.assertIs(type(tree.words()), tuple)
        self.assertIs(type(tree.below("")), str)
        self.assertIs(tree.has("a"), True)
        self.assertIs(tree.has("aa"), False)

    def test_defined_in_its_file_and_class(self):
        self.assertEqual(Tree.__module__, "lettertrees.trees")
        for name in ("__init__", "__eq__", "has", "row", "below", "words", "of"):
            self.assertIn(name, vars(Tree))
        self.assertIsInstance(vars(Tree)["of"], classmethod)

    def test_rows_in_any_order_as_tuples_or_lists(self):
        rows = [("", True, True), ("a", False, True), ("ab", True, False), ("b", False, False)]
        wanted = Tree("ab", rows)
        self.assertEqual(wanted.rows, tuple(rows))
        for mixed in itertools.permutations(rows):
            self.assertEqual(Tree("ab", list(mixed)).rows, tuple(rows))
            self.assertEqual(Tree("ab", [list(row) for row in mixed]), wanted)
            self.assertEqual(Tree("ab", tuple(mixed)), wanted)

    def test_lists_that_are_changed_afterwards(self):
        rows = [["", False, False], ["a", True, False]]
        tree = Tree("ab", rows)
        rows[1][1] = False
        rows[0][0] = "zz"
        rows.append(["b", True, True])
        del rows[0]
        self.assertEqual(tree.rows, (("", False, False), ("a", True, False)))
        self.assertEqual((tree.size, tree.row("a"), tree.row(""), tree.below(""), tree.words()),
                         (2, ("a", True, False), ("", False, False), "a", ("a",)))

    def test_arguments_are_not_changed(self):
        rows = [["b", True, False], ("a", True, False), ["", False, True]]
        before = copy.deepcopy(rows)
        Tree("ba", rows)
        self.assertEqual(rows, before)
        words = ["b", "", "ab"]
        Tree.of("ab", words)
        self.assertEqual(words, ["b", "", "ab"])

    def test_values_that_are_no_letters(self):
        wrong = odd_values() + ["", "a", "aa", "aba", ALPHABET + "a", "ab1", "ab\n", "Ab", 2, "a" * 27, 12]
        for letters in wrong:
            self.assert_error(BadLetters, {"letters": letters}, Tree, letters, [("", False, False)])
            self.assert_error(BadLetters, {"letters": letters}, Tree.of, letters, [])

    def test_two_to_twenty_six_letters_in_any_order(self):
        for letters in ("ab", "zy", "cab", ALPHABET, ALPHABET[::-1]):
            tree = Tree(letters, bare_rows([""] + sorted(letters)))
            self.assertEqual((tree.letters, tree.below(""), tree.size), (letters, letters, len(letters) + 1))
            self.assertEqual([row[0] for row in tree.rows], [""] + list(letters))

    def test_how_many_places(self):
        self.assert_error(TooMany, {"what": "places", "many": 0, "most": 2000}, Tree, "ab", [])
        self.assert_error(TooMany, {"what": "places", "many": 0, "most": 2000}, Tree, "ab", ())
        root = Tree("ab", [("", True, True)])
        self.assertEqual((root.size, root.height, root.words(), root.below("")), (1, 0, ("",), ""))
        full = Tree("abc", bare_rows(first_places("abc", 2000)))
        self.assertEqual((full.size, full.height), (2000, 7))
        self.assert_error(TooMany, {"what": "places", "many": 2001, "most": 2000},
                          Tree, "abc", bare_rows(first_places("abc", 2001)))

    def test_elements_that_are_no_rows(self):
        wrong = odd_values() + [
            "", "a", "abc", 0, 1, ("a",), ("a", False), ("a", False, False, False), ["a", False],
            [["a"], False, False], ("ac", False, False),
            ("a", 0, False), ("a", 1, False), ("a", False, 0), ("a", False, 1), ("a", None, False), ("a", False, None),
            ("a", "", False), (None, False, False), (True, False, False), (0, False, False), (("a",), False, False),
            ({}, False, False), ({"a": 1}, False, False), ("A", False, False), ("c", False, False),
            ("a ", False, False), ("a" * 201, False, False), {"a": 1, "b": True, "c": False},
            (Tree("ab", [("", False, False)]), False, False), ("a", [], False), ("a", False, [True]),
        ]
        for row in wrong:
            for number in (0, 1, 2):
                rows = bare_rows(["", "b"])
                rows.insert(number, row)
                self.assert_error(BadRow, {"number": number}, Tree, "ab", rows)

    def test_a_place_twice(self):
        self.assert_error(BadRow, {"number": 1}, Tree, "ab", [("", False, False), ["", False, False]])
        self.assert_error(BadRow, {"number": 3}, Tree, "ab",
                          [("a", False, False), ("", False, False), ("b", False, False), ("a", True, False)])

    def test_the_first_wrong_element_is_told(self):
        self.assert_error(BadRow, {"number": 1}, Tree, "ab", [("", False, False), None, ("", False, False), 5])

    def test_words_of_200_and_201_letters(self):
        way = ["a" * length for length in range(202)]
        tree = Tree("ab", bare_rows(way[:201]))
        self.assertEqual((tree.size, tree.height), (201, 200))
        self.assertTrue(tree.has("a" * 200))
        self.assertFalse(tree.has("a" * 201))
        self.assert_error(BadRow, {"number": 201}, Tree, "ab", bare_rows(way))
        self.assert_error(BadWord, {"number": 0}, Tree.of, "ab", ["a" * 201])
        self.assertEqual(Tree.of("ab", ["a" * 200]).size, 201)

    def test_the_first_lone_place_in_order(self):
        self.assert_error(Lone, {"place": "a"}, Tree, "ab", [("a", False, False)])
        self.assert_error(Lone, {"place": "ab"}, Tree, "ab", bare_rows(["", "ab"]))
        self.assert_error(Lone, {"place": "bb"}, Tree, "ba", bare_rows(["", "aa", "bb"]))
        self.assert_error(Lone, {"place": "aa"}, Tree, "ab", bare_rows(["", "bb", "aa"]))
        self.assert_error(Lone, {"place": "zyx"}, Tree, "zyx", bare_rows(["xz", "", "z", "x", "zyx", "xyz"]))
        self.assert_error(Lone, {"place": "zx"}, Tree, "zxy", bare_rows(["zyx", "", "zxyx", "zx", "y"]))
        self.assert_error(Lone, {"place": "b"}, Tree, "ba", bare_rows(["a", "b"]))

    def test_which_error_comes_first(self):
        self.assert_error(BadLetters, {"letters": "aa"}, Tree, "aa", [])
        self.assert_error(BadLetters, {"letters": "a"}, Tree, "a", [None] * 2001)
        self.assert_error(TooMany, {"what": "places", "many": 2001, "most": 2000}, Tree, "ab", [None] * 2001)
        self.assert_error(TooMany, {"what": "places", "many": 2001, "most": 2000}, Tree, "ab", bare_rows([""] * 2001))
        self.assert_error(BadRow, {"number": 1}, Tree, "ab", [("aa", False, False), ("c", False, False)])
        self.assert_error(BadRow, {"number": 1}, Tree, "ab", bare_rows(["aa", "aa"]))

    def test_has_row_and_below_of_any_value(self):
        tree = self.sample()
        for place in odd_values() + ["aa", "ba", "abb", "c", "a" * 300, 0, 1, ["a"], ("a", False, False)]:
            self.assertIs(tree.has(place), False)
            self.assert_error(NoPlace, {"place": place}, tree.row, place)
            self.assert_error(NoPlace, {"place": place}, tree.below, place)

    def test_each_place_of_a_tree(self):
        rows = [("", False, True), ("c", True, True), ("ca", False, False), ("cb", True, False), ("a", False, False),
                ("ac", True, True), ("aca", True, False), ("b", True, False)]
        tree = Tree("cab", rows)
        self.assertEqual(tree.rows, tuple(rows))
        for row in rows:
            self.assertIs(tree.has(row[0]), True)
            self.assertEqual(tree.row(row[0]), row)
        self.assertEqual({place: tree.below(place) for place, _, _ in rows},
                         {"": "cab", "c": "ab", "ca": "", "cb": "", "a": "c", "ac": "a", "aca": "", "b": ""})
        self.assertEqual(tree.words(), ("c", "cb", "ac", "aca", "b"))
        self.assertEqual((tree.size, tree.height), (8, 3))

    def test_words_and_rows_in_order(self):
        for letters in ("abc", "cba", "bca"):
            places = first_places("abc", 40)
            tree = Tree(letters, [(place, len(place) != 1, False) for place in places])
            wanted = sorted(places, key=lambda place: [letters.index(letter) for letter in place])
            self.assertEqual([row[0] for row in tree.rows], wanted)
            self.assertEqual(tree.words(), tuple([place for place in wanted if len(place) != 1]))

    def test_equality(self):
        rows = [("", False, False), ("a", True, False)]
        tree = Tree("ab", rows)
        self.assertTrue(tree == Tree("ab", rows[::-1]))
        self.assertFalse(tree != Tree("ab", rows))
        for other in (Tree("ba", rows), Tree("abc", rows), Tree("ab", rows[:1]),
                      Tree("ab", [("", False, False), ("a", False, False)]),
                      Tree("ab", [("", False, False), ("a", True, True)]),
                      Tree("ab", [("", False, False), ("b", True, False)])):
            self.assertFalse(tree == other)
            self.assertTrue(tree != other)

    def test_no_value_of_another_class_is_equal(self):
        tree = Tree("ab", [("", False, False)])
        others = [value for value in odd_values() if not isinstance(value, Tree)]
        for other in others + [tree.rows, list(tree.rows), ("ab", tree.rows), "ab", Rule([], [])]:
            self.assertIs(tree == other, False)
            self.assertIs(other == tree, False)
            self.assertIs(tree != other, True)

    def test_a_tree_does_not_change_by_what_is_asked(self):
        tree = self.sample()
        before = tree.rows
        for _ in range(2):
            self.assertEqual((tree.below(""), tree.words(), tree.row("ab")), ("ba", ("b", "ab"), ("ab", True, False)))
            self.assertRaises(NoPlace, tree.row, "bb")
        self.assertEqual((tree.rows, self.sample() == tree), (before, True))


class TreeOfTest(TreesCase):
    def test_the_places_are_the_beginnings(self):
        tree = Tree.of("abc", ["ba", "b", "abc"])
        self.assertIs(type(tree), Tree)
        self.assertEqual(tree.letters, "abc")
        self.assertEqual(tree.rows, (("", False, False), ("a", False, False), ("ab", False, False),
                                     ("abc", True, False), ("b", True, False), ("ba", True, False)))

    def test_no_words_and_the_empty_word(self):
        self.assertEqual(Tree.of("ab", []).rows, (("", False, False),))
        self.assertEqual(Tree.of("ab", [""]).rows, (("", True, False),))
        self.assertEqual(Tree.of("ab", ["a", ""]).words(), ("", "a"))

    def test_order_of_the_words_does_not_matter(self):
        words = ["", "a", "ab", "b", "bba"]
        wanted = Tree.of("ba", words)
        self.assertEqual(wanted.words(), ("", "b", "bba", "a", "ab"))
        for mixed in itertools.permutations(words):
            self.assertEqual(Tree.of("ba", list(mixed)), wanted)
            self.assertEqual(Tree.of("ba", mixed), wanted)

    def test_it_is_called_off_an_object_too(self):
        self.assertEqual(Tree.of("ab", []).of("cd", ["d"]), Tree.of("cd", ["d"]))

    def test_elements_that_are_no_words(self):
        for word in odd_values() + ["c", "ac", "ca", "a" * 201, 0, 1, ["a"]]:
            self.assert_error(BadWord, {"number": 0}, Tree.of, "ab", [word, "a"])
            self.assert_error(BadWord, {"number": 2}, Tree.of, "ab", ["a", "", word, None])

    def test_a_word_twice(self):
        self.assert_error(BadWord, {"number": 2}, Tree.of, "ab", ["a", "b", "a", "b"])
        self.assert_error(BadWord, {"number": 1}, Tree.of, "ab", ["", ""])

    def test_how_many_places(self):
        words = [letter + "a" * 199 for letter in "abcdefghi"] + ["j" + "a" * 198]
        self.assertEqual(Tree.of("abcdefghij", words).size, 2000)
        words[-1] += "a"
        self.assert_error(TooMany, {"what": "places", "many": 2001, "most": 2000}, Tree.of, "abcdefghij", words)
        words.append("a" * 100 + "b")
        self.assert_error(TooMany, {"what": "places", "many": 2002, "most": 2000}, Tree.of, "abcdefghij", words)
        words = [one + two + "a" * 198 for one in ALPHABET for two in ALPHABET]
        self.assert_error(TooMany, {"what": "places", "many": 1 + 26 + 676 * 199, "most": 2000},
                          Tree.of, ALPHABET, words)

    def test_how_many_places_by_each_first_letter(self):
        for letter, other in zip(ALPHABET, ALPHABET[1:] + "a"):
            words = [letter + sign + "m" * 198 for sign in ALPHABET[:10]]
            self.assertEqual(Tree.of(ALPHABET, words + [other * 8]).size, 2000)
            self.assert_error(TooMany, {"what": "places", "many": 2001, "most": 2000},
                              Tree.of, ALPHABET, words + [other * 9])

    def test_many_short_words(self):
        words = first_places("abc", 2000)
        self.assertEqual(Tree.of("abc", words[::-1]).size, 2000)
        words = first_places("abc", 2001)
        self.assert_error(TooMany, {"what": "places", "many": 2001, "most": 2000}, Tree.of, "abc", words)

    def test_which_error_comes_first(self):
        self.assert_error(BadLetters, {"letters": "aa"}, Tree.of, "aa", [None])
        words = [letter + "a" * 199 for letter in "abcdefghijk"]
        self.assert_error(BadWord, {"number": 11}, Tree.of, "abcdefghijk", words + ["z"])
        self.assert_error(BadWord, {"number": 11}, Tree.of, "abcdefghijk", words + [words[3]])


if __name__ == "__main__":
    unittest.main()
