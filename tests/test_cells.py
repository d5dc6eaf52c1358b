"""Promise [13]: the way of a word."""

import itertools
import unittest

from lettertrees import cells as cells_file
from lettertrees.cells import cells, is_let, least_part
from lettertrees.ratios import Ratio
from lettertrees.rules import Rule, known_rule
from lettertrees.trees import Tree
from tests.drawing import Drawer
from tests.support import TreesCase, odd_values

BOOLS = (False, True)
KINDS = list(itertools.product(BOOLS, BOOLS, (0, 1, 2)))
ALL_CELLS = list(itertools.product(BOOLS, BOOLS, (0, 1, 2), BOOLS))
NAMES = ("plain", "joined", "bare", "free")


def plain_cells(tree, word):
    """The same, going over all places."""
    out = []
    for length in range(len(word) + 1):
        place = word[:length]
        if not tree.has(place):
            out.append(None)
            continue
        beside = [place + letter for letter in tree.below(place) if place + letter != word[:length + 1]]
        words = [row for row in tree.rows if row[1] and row[0].startswith(tuple(beside))] if beside else []
        out.append((tree.row(place)[1], tree.row(place)[2], min(2, len(beside)), len(words) > 0))
    return tuple(out)


def drawn_rules(many):
    drawer = Drawer(41)
    out = [known_rule(name) for name in NAMES] + [Rule([], []), Rule(KINDS, []), Rule([], KINDS)]
    out += [Rule([kind], [kind]) for kind in KINDS]
    for _ in range(many):
        chance = drawer.random.random()
        out.append(Rule(*[[kind for kind in KINDS if drawer.random.random() < chance] for _ in range(2)]))
    return out


def plain_least_part(rule, words):
    """The same, by parts of more and more places; two children are enough where there are more."""
    # sizes[words] are the sizes for which there is a part.
    sizes = {False: set(), True: set()}
    for size in range(1, 12):
        for mark, _, children in rule.others:
            for kept in itertools.product(BOOLS, repeat=children):
                if any(sum(chosen) == size - 1 for chosen in itertools.product(*[sorted(sizes[one]) for one in kept])):
                    sizes[mark or any(kept)].add(size)
    return min(sizes[words], default=None)


class CellsTest(TreesCase):
    def test_the_example_of_the_document(self):
        self.assertEqual(cells(Tree.of("abc", ["a", "ab", "c"]), "aaa"),
                         ((False, False, 1, True), (True, False, 1, True), None, None))
        plain = known_rule("plain")
        self.assertEqual([least_part(plain, True), least_part(plain, False),
                          is_let(plain, (False, False, 0, False), False, True),
                          is_let(plain, (False, False, 0, False), False, False)], [1, None, True, False])

    def test_words_that_are_kept_beginnings_and_longer_ones(self):
        tree = Tree.of("ab", ["", "ab", "aba"])
        self.assertEqual(cells(tree, ""), ((True, False, 1, True),))
        self.assertEqual(cells(tree, "a"), ((True, False, 0, False), (False, False, 1, True)))
        self.assertEqual(cells(tree, "ab"), ((True, False, 0, False), (False, False, 0, False), (True, False, 1, True)))
        self.assertEqual(cells(tree, "abab"), ((True, False, 0, False), (False, False, 0, False),
                                               (True, False, 0, False),
                                               (True, False, 0, False), None))

    def test_words_that_leave_the_tree(self):
        tree = Tree.of("ab", ["ab"])
        self.assertEqual(cells(tree, "b"), ((False, False, 1, True), None))
        self.assertEqual(cells(tree, "bab"), ((False, False, 1, True), None, None, None))
        self.assertEqual(cells(tree, "aab"), ((False, False, 0, False), (False, False, 1, True), None, None))
        self.assertEqual(cells(Tree.of("ab", []), "ab"), ((False, False, 0, False), None, None))
        self.assertEqual(cells(Tree.of("ab", []), ""), ((False, False, 0, False),))
        self.assertEqual(len(cells(tree, "b" * 200)), 201)

    def test_how_many_others(self):
        for below in ("", "a", "ab", "abc", "abcd", "bcd", "b", "cd"):
            tree = Tree("abcd", [("", False, True)] + [(letter, False, False) for letter in below])
            self.assertEqual(cells(tree, ""), ((False, True, min(2, len(below)), False),))
            for letter in "abcd":
                others = min(2, len(below.replace(letter, "")))
                self.assertEqual(cells(tree, letter)[0], (False, True, others, False))
                self.assertEqual(cells(tree, letter)[1], (False, False, 0, False) if letter in below else None)

    def test_words_beside(self):
        rows = [("", False, False), ("a", False, False), ("b", False, False), ("ba", False, False),
                ("bab", True, False),
                ("c", False, False), ("ca", False, False)]
        tree = Tree("abc", rows)
        self.assertEqual([cells(tree, word)[0][3] for word in ("", "a", "b", "c", "bab", "ca")],
                         [True, True, False, True, False, True])
        # Bare children are others, but keep no word.
        bare = Tree("abc", [row[:1] + (False, True) for row in rows])
        self.assertEqual([cells(bare, word)[0] for word in ("", "a", "b", "bab")], [(False, True, 2, False)] * 4)
        self.assertEqual(cells(tree, "bb")[1:], ((False, False, 1, True), None))
        self.assertEqual(cells(tree, "cb")[1:], ((False, False, 1, False), None))
        self.assertEqual(cells(tree, "ba")[2], (False, False, 1, True))

    def test_against_plain_cells(self):
        drawer = Drawer(42)
        for _ in range(1500):
            tree, word = drawer.tree("abcd"[:drawer.random.randint(2, 4)], 12), drawer.word("ab", 5)
            rows = tree.rows
            told = cells(tree, word)
            self.assertEqual(told, plain_cells(tree, word))
            self.assertEqual(tree.rows, rows)
            self.assertIs(type(told), tuple)
            for cell in told:
                if cell is not None:
                    self.assertIs(type(cell), tuple)
                    self.assertEqual([type(part) for part in cell], [bool, bool, int, bool])

    def test_they_are_let_in_trees_that_keep_the_rule(self):
        for rule in drawn_rules(30):
            for size in range(1, 5):
                for tree in rule.trees("ab", size)[:60]:
                    for word in ("", "a", "ab", "aab", "bb"):
                        way = cells(tree, word)
                        for length, cell in enumerate(way):
                            if cell is not None:
                                goes_on = length < len(word) and way[length + 1] is not None
                                self.assertIs(is_let(rule, cell, length == 0, goes_on), True)

    def test_defined_in_their_file(self):
        for told in (cells, least_part, is_let):
            self.assertEqual(told.__module__, "lettertrees.cells")
        self.assertIs(cells_file.cells, cells)


class LeastPartTest(TreesCase):
    def test_known_rules(self):
        for name, told in (("plain", (1, None)), ("joined", (1, None)), ("bare", (1, 1)), ("free", (1, 1))):
            rule = known_rule(name)
            self.assertEqual((least_part(rule, True), least_part(rule, False)), told)
            self.assertIs(type(least_part(rule, True)), int)

    def test_rules_without_leaves_or_marks(self):
        for others, told in (
                ([], (None, None)), ([(False, False, 1), (True, True, 2)], (None, None)),
                ([(True, False, 1)], (None, None)), ([(True, True, 0)], (1, None)), ([(False, True, 0)], (None, 1)),
                ([(False, False, 0), (False, True, 1), (False, False, 2)], (None, 1)),
                ([(True, False, 0), (False, True, 1)], (1, None)),
                ([(False, False, 0), (True, False, 1)], (2, 1)), ([(False, True, 0), (True, True, 2)], (3, 1)),
                ([(False, True, 0), (True, True, 2), (True, False, 1)], (2, 1)),
                ([(False, True, 0), (True, True, 2), (True, False, 0)], (1, 1)),
                ([(False, True, 0), (True, True, 2), (False, False, 1), (False, False, 2)], (3, 1))):
            for root in ([], KINDS):
                rule = Rule(root, others)
                self.assertEqual((least_part(rule, True), least_part(rule, False)), told, others)

    def test_all_rules(self):
        for many in range(4):
            for others in itertools.combinations(KINDS, many):
                rule = Rule([], others)
                for words in BOOLS:
                    self.assertEqual(least_part(rule, words), plain_least_part(rule, words), (others, words))
        for rule in drawn_rules(100):
            for words in BOOLS:
                self.assertEqual(least_part(rule, words), plain_least_part(rule, words))

    def test_as_trees_have_them(self):
        for rule in drawn_rules(40):
            other = Rule([(False, False, 1)], rule.others)
            for words in BOOLS:
                sizes = [size - 1 for size in range(2, 5) for tree in other.trees("ab", size)
                         if (len(tree.words()) > 0) is words]
                least = least_part(rule, words)
                self.assertEqual(min(sizes, default=None), least if least is None or least <= 3 else None)


class IsLetTest(TreesCase):
    def test_all_cells_against_what_is_told_of_them(self):
        for rule in drawn_rules(60):
            parts = {words: plain_least_part(rule, words) is not None for words in BOOLS}
            for cell in ALL_CELLS:
                mark, flag, others, words = cell
                for root, goes_on in itertools.product(BOOLS, repeat=2):
                    kind = (mark, flag, min(2, others + (1 if goes_on else 0)))
                    wanted = kind in (rule.root if root else rule.others)
                    wanted = wanted and (not words if others == 0 else parts[words])
                    self.assertIs(is_let(rule, cell, root, goes_on), wanted, (cell, root, goes_on))

    def test_plain(self):
        plain = known_rule("plain")
        let = [cell for cell in ALL_CELLS if is_let(plain, cell, False, False)]
        self.assertEqual(let, [(False, False, 1, True), (False, False, 2, True), (True, False, 0, False),
                               (True, False, 1, True), (True, False, 2, True)])
        let = [cell for cell in ALL_CELLS if is_let(plain, cell, False, True)]
        self.assertEqual(let, [(mark, False, others, others > 0) for mark in BOOLS for others in (0, 1, 2)])
        for goes_on in BOOLS:
            self.assertEqual([cell for cell in ALL_CELLS if is_let(plain, cell, True, goes_on)], let)

    def test_the_kind_has_one_child_more_where_the_way_goes_on(self):
        for children in (0, 1, 2):
            rule = Rule([(True, True, children)], [(True, False, 0)])
            for others in (0, 1, 2):
                cell = (True, True, others, others > 0)
                self.assertIs(is_let(rule, cell, True, False), others == children)
                self.assertIs(is_let(rule, cell, True, True), min(2, others + 1) == children)

    def test_values_that_are_no_cell(self):
        free = known_rule("free")
        wrong = odd_values() + [
            (False, False, 0), (False, False, 0, False, False), [False, False, 0, False], (False, False, 3, True),
            (False, False, -1, True), (1, False, 1, True), (0, False, 0, False), (False, 1, 1, True),
            (False, 0, 0, False),
            (False, False, True, True), (False, False, False, False), (False, False, 1, 1), (False, False, 0, 0),
            (None, False, 0, False), (False, None, 0, False), (False, False, None, False), (False, False, 0, None),
            (False, False, "0", False), (False, False, [1], True), ([], False, 0, False), (False, {}, 0, False),
            (False, False, 0, []), (False, False, Ratio(0), False), ((False, False, 0, False),), 0, 1, True, "cell",
            {0: False, 1: False, 2: 0, 3: False}, (False, False, 10 ** 39, True),
        ]
        for cell in wrong:
            for root, goes_on in itertools.product(BOOLS, repeat=2):
                self.assertIs(is_let(free, cell, root, goes_on), False, cell)
        self.assertIs(is_let(free, (False, False, 0, False), True, True), True)


if __name__ == "__main__":
    unittest.main()
