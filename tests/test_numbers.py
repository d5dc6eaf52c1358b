"""Promise [7]: how many trees keep a rule, and which they are."""

import itertools
import math
import unittest

from lettertrees.errors import BadLetters, BadSize, TooMany
from lettertrees.rules import Rule, known_rule
from lettertrees.trees import Tree
from tests.support import ALPHABET, TreesCase, odd_values

BOOLS = (False, True)
ALL_KINDS = list(itertools.product(BOOLS, BOOLS, (0, 1, 2)))
NAMES = ("plain", "joined", "bare", "free")


def kinds_at(number):
    """The kinds whose bits are in the number."""
    return [kind for at, kind in enumerate(ALL_KINDS) if number >> at & 1]


def some_rules():
    """Rules of all sorts: the known ones, those without some number of children, and a spread of others."""
    out = [known_rule(name) for name in NAMES] + [Rule([], []), Rule(ALL_KINDS, []), Rule([], ALL_KINDS)]
    for lacking in itertools.product((0, 1, 2), repeat=2):
        out.append(Rule([kind for kind in ALL_KINDS if kind[2] != lacking[0]],
                        [kind for kind in ALL_KINDS if kind[2] != lacking[1]]))
    number = 1
    for _ in range(40):
        number = number * 1103515245 + 12345 & 2 ** 31 - 1
        out.append(Rule(kinds_at(number >> 3 & 4095), kinds_at(number >> 15 & 4095)))
    return out


def place_sets(letters, size):
    """All sets of so many places that hold with each place its parent, as sorted tuples."""
    found = {("",)}
    for _ in range(size - 1):
        found = {tuple(sorted(places + (place + letter,)))
                 for places in found for place in places for letter in letters if place + letter not in places}
    return found


def counted(rule, sets, letters):
    """The plain count: for each set of places, in how many ways its marks and flags may stand."""
    total = 0
    for places in sets:
        ways = 1
        for place in places:
            children = min(2, sum(place + letter in places for letter in letters))
            kinds = rule.root if place == "" else rule.others
            ways *= sum(kind[2] == children for kind in kinds)
        total += ways
    return total


def spread_numbers(rule, many, size):
    """How many trees there are of 1 .. size places: the places are spread over one letter behind the other."""
    lets = [[sum(kind[2] == children for kind in kinds) for children in range(3)] for kinds in (rule.root, rule.others)]
    parts = [0]
    numbers = []
    for below in range(size):
        # ways[c][n]: n places below the letters so far, with c children, 2 for two and more.
        ways = [[1] + [0] * below, [0] * (below + 1), [0] * (below + 1)]
        for _ in range(many):
            old = [list(row) for row in ways]
            for children in range(3):
                for at in range(below + 1):
                    if old[children][at]:
                        for part in range(1, below - at + 1):
                            ways[min(2, children + 1)][at + part] += old[children][at] * parts[part]
        numbers.append(sum(lets[0][children] * ways[children][below] for children in range(3)))
        parts.append(sum(lets[1][children] * ways[children][below] for children in range(3)))
    return numbers


class NumberTest(TreesCase):
    def test_the_example_of_the_document(self):
        plain = known_rule("plain")
        self.assertEqual([plain.number_of_trees("ab", size) for size in (1, 2, 3)], [2, 4, 18])
        self.assertEqual(sorted([tree.words() for tree in plain.trees("ab", 2)]),
                         [("", "a"), ("", "b"), ("a",), ("b",)])

    def test_small_sizes_against_a_plain_count(self):
        for letters, largest in (("ab", 6), ("cab", 5), ("dbca", 4)):
            for size in range(1, largest + 1):
                sets = place_sets(letters, size)
                for rule in some_rules():
                    self.assertEqual(rule.number_of_trees(letters, size), counted(rule, sets, letters))

    def test_shapes_of_all_sizes_and_letters(self):
        # Trees of n places over k letters, marks and flags aside, are told by a known formula.
        for many in range(2, 27):
            for size in range(1, 101):
                shapes = math.comb(many * size, size) // ((many - 1) * size + 1)
                self.assertEqual(known_rule("bare").number_of_trees(ALPHABET[:many], size), shapes * 2 ** size)
                self.assertEqual(known_rule("free").number_of_trees(ALPHABET[:many], size), shapes * 4 ** size)

    def test_ways_stars_and_branches_of_all_sizes(self):
        way = Rule([(False, False, 1)], [(False, False, 1), (True, False, 0), (True, True, 0)])
        star = Rule([(False, True, 2)], [(True, False, 0)])
        branches = Rule([(False, False, 2)], [(False, False, 2), (False, False, 0)])
        for size in range(2, 101):
            for many in (2, 3, 13, 26):
                letters = ALPHABET[:many]
                self.assertEqual(way.number_of_trees(letters, size), 2 * many ** (size - 1))
                self.assertEqual(star.number_of_trees(letters, size), math.comb(many, size - 1) if size > 2 else 0)
            half = size // 2
            wanted = math.comb(2 * half, half) // (half + 1) if size % 2 else 0
            self.assertEqual(branches.number_of_trees("ba", size), wanted)
        self.assertEqual([way.number_of_trees("ab", 1), star.number_of_trees("ab", 1)], [0, 0])

    def test_other_rules_to_size_100(self):
        for name, many, size in (("plain", 2, 100), ("joined", 5, 40), ("plain", 26, 30)):
            numbers = spread_numbers(known_rule(name), many, size)
            self.assertEqual([known_rule(name).number_of_trees(ALPHABET[:many], at + 1) for at in range(size)], numbers)
        for rule in some_rules():
            numbers = spread_numbers(rule, 3, 20)
            self.assertEqual([rule.number_of_trees("zyx", at + 1) for at in range(20)], numbers)

    def test_only_how_many_letters_matters(self):
        for rule in some_rules():
            self.assertEqual(rule.number_of_trees("abc", 9), rule.number_of_trees("zmb", 9))

    def test_wrong_letters_and_sizes(self):
        plain = known_rule("plain")
        for call in (plain.number_of_trees, plain.trees, Rule([], []).trees):
            for size in odd_values() + [0, 101, "", "1", "5", (1,), [3], 10 ** 40]:
                self.assert_error(BadSize, {"size": size}, call, "ab", size)
            for letters in odd_values() + ["", "a", "aba", 3]:
                self.assert_error(BadLetters, {"letters": letters}, call, letters, 1)
                self.assert_error(BadLetters, {"letters": letters}, call, letters, 0)

    def test_sizes_at_the_bounds(self):
        plain = known_rule("plain")
        self.assertEqual(plain.number_of_trees("ab", 1), 2)
        self.assertGreater(plain.number_of_trees("ab", 100), plain.number_of_trees("ab", 99))


class ListTest(TreesCase):
    def assert_list(self, rule, letters, size):
        trees = rule.trees(letters, size)
        self.assertIs(type(trees), list)
        self.assertEqual(len(trees), rule.number_of_trees(letters, size))
        self.assertEqual(len({tree.rows for tree in trees}), len(trees))
        for tree in trees:
            self.assertIs(type(tree), Tree)
            self.assertEqual((tree.letters, tree.size), (letters, size))
            self.assertTrue(rule.keeps(tree))

    def test_each_tree_once(self):
        for rule in some_rules():
            for letters, largest in (("ab", 6), ("cab", 4), (ALPHABET, 3)):
                for size in range(1, largest + 1):
                    if rule.number_of_trees(letters, size) <= 5000:
                        self.assert_list(rule, letters, size)

    def test_just_the_trees_that_keep_the_rule(self):
        for size in (1, 2, 3):
            sets = place_sets("ba", size)
            for rule in some_rules():
                wanted = set()
                for places in sets:
                    for told in itertools.product(itertools.product(BOOLS, BOOLS), repeat=size):
                        tree = Tree("ba", [(place, *pair) for place, pair in zip(places, told)])
                        if rule.keeps(tree):
                            wanted.add(tree.rows)
                self.assertEqual({tree.rows for tree in rule.trees("ba", size)}, wanted)

    def test_large_trees(self):
        branches = Rule([(False, False, 2)], [(False, False, 2), (False, False, 0)])
        self.assertEqual(branches.number_of_trees("ab", 19), 4862)
        self.assert_list(branches, "ab", 19)
        star = Rule([(True, False, 2)], [(False, True, 0)])
        self.assert_list(star, ALPHABET, 27)
        self.assert_list(star, ALPHABET, 26)
        self.assert_list(star, ALPHABET, 4)
        self.assertEqual(star.trees(ALPHABET, 28), [])
        way = Rule([(False, False, 1)], [(False, False, 1), (True, False, 0)])
        self.assert_list(way, "ab", 13)

    def test_none(self):
        for rule in (Rule([], []), Rule([], ALL_KINDS), Rule([(False, False, 2)], [(False, False, 1)])):
            for size in (1, 2, 3, 50, 100):
                self.assertEqual(rule.trees("ab", size), [])
        branches = Rule([(False, False, 2)], [(False, False, 2), (False, False, 0)])
        self.assertEqual([branches.trees("ab", 100), branches.number_of_trees("ab", 100)], [[], 0])
        # Far too many parts stand ready here, but none of them fits a root without children.
        self.assertEqual(Rule([(True, True, 0)], ALL_KINDS).trees(ALPHABET, 100), [])

    def test_just_5000_and_more(self):
        others = [(False, False, 1), (True, True, 1), (True, False, 0)]
        rule = Rule([(False, False, 1)], others)
        self.assertEqual(rule.number_of_trees("abcde", 5), 5000)
        self.assert_list(rule, "abcde", 5)
        star = Rule([(False, False, 2)], [(True, False, 0)])
        self.assert_error(TooMany, {"what": "trees", "many": 5005, "most": 5000}, star.trees, ALPHABET[:15], 7)
        self.assert_error(TooMany, {"what": "trees", "many": 5005, "most": 5000}, star.trees, ALPHABET[:15], 10)

    def test_far_more_than_could_be_listed(self):
        shapes = math.comb(2600, 100) // 2501
        self.assert_error(TooMany, {"what": "trees", "many": shapes * 4 ** 100, "most": 5000},
                          known_rule("free").trees, ALPHABET, 100)
        shapes = math.comb(200, 100) // 101
        self.assert_error(TooMany, {"what": "trees", "many": shapes * 2 ** 100, "most": 5000},
                          known_rule("bare").trees, "ab", 100)

    def test_lists_are_new_with_each_call(self):
        plain = known_rule("plain")
        trees = plain.trees("ab", 3)
        again = plain.trees("ab", 3)
        self.assertEqual(trees, again)
        trees.clear()
        self.assertEqual((plain.trees("ab", 3), len(again)), (again, 18))


if __name__ == "__main__":
    unittest.main()
