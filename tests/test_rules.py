"""Promise [7]: which trees may be met, but for how many there are (test_numbers.py)."""

import copy
import itertools
import unittest

from lettertrees import rules
from lettertrees.errors import BadKind, BadLetters, BadName, BadWord, NoPlace, NotExact, TooMany
from lettertrees.rules import Rule, kind_of, known_rule
from lettertrees.trees import Tree
from tests.support import TreesCase, first_places, odd_values

BOOLS = (False, True)
ALL_KINDS = list(itertools.product(BOOLS, BOOLS, (0, 1, 2)))
NAMES = ("plain", "joined", "bare", "free")
# Exact, with flags here and there: neither the known ones nor one flag for each mark.
MIXED_ROOT = [(False, False, 0), (False, True, 1), (False, False, 2),
              (True, True, 0), (True, False, 1), (True, True, 2)]
MIXED_OTHERS = [(False, True, 1), (False, False, 2), (True, False, 0), (True, True, 1), (True, True, 2)]


def exact_rules():
    return [known_rule("plain"), known_rule("joined"), Rule(MIXED_ROOT, MIXED_OTHERS)]


class KindOfTest(TreesCase):
    def test_each_kind(self):
        tree = Tree("abc", [("", True, False), ("a", False, True), ("b", False, False), ("c", True, True),
                            ("ba", False, False), ("ca", True, False), ("cb", True, True)])
        wanted = {"": (True, False, 2), "a": (False, True, 0), "b": (False, False, 1), "ba": (False, False, 0),
                  "c": (True, True, 2), "ca": (True, False, 0), "cb": (True, True, 0)}
        for place, kind in wanted.items():
            self.assertEqual(kind_of(tree, place), kind)
            self.assertIs(type(kind_of(tree, place)), tuple)
            self.assertIs(type(kind_of(tree, place)[2]), int)

    def test_any_value_that_is_no_place(self):
        tree = Tree.of("ab", ["a"])
        for place in odd_values() + ["b", "aa", "c", 0, 1]:
            self.assert_error(NoPlace, {"place": place}, kind_of, tree, place)

    def test_defined_in_their_file_and_class(self):
        for told in (Rule, kind_of, known_rule):
            self.assertEqual(told.__module__, "lettertrees.rules")
        for name in ("__init__", "__eq__", "keeps", "broken_at", "is_exact", "tree_of", "number_of_trees", "trees"):
            self.assertIn(name, vars(Rule))
        self.assertIs(rules.Rule, Rule)


class RuleTest(TreesCase):
    def test_kinds_are_kept_ascending_as_tuples(self):
        rule = Rule([[True, False, 2], (False, True, 1), (False, True, 0)], ((True, True, 0), [False, False, 2]))
        self.assertEqual(rule.root, ((False, True, 0), (False, True, 1), (True, False, 2)))
        self.assertEqual(rule.others, ((False, False, 2), (True, True, 0)))
        for kinds in (rule.root, rule.others):
            self.assertIs(type(kinds), tuple)
            self.assertTrue(all(type(kind) is tuple for kind in kinds))
        self.assertEqual((Rule([], []).root, Rule((), ()).others), ((), ()))
        full = Rule(ALL_KINDS[::-1], [list(kind) for kind in ALL_KINDS])
        self.assertEqual((full.root, full.others), (tuple(ALL_KINDS), tuple(ALL_KINDS)))

    def test_lists_that_are_changed_afterwards(self):
        root, others = [[False, False, 0]], [[True, True, 1], (True, False, 0)]
        before = copy.deepcopy(others)
        rule = Rule(root, others)
        self.assertEqual((root, others), ([[False, False, 0]], before))
        root[0][0] = True
        root.append((True, True, 2))
        others[0][2] = 2
        del others[1]
        self.assertEqual((rule.root, rule.others), (((False, False, 0),), ((True, False, 0), (True, True, 1))))

    def test_values_that_are_no_kinds(self):
        wrong = odd_values() + [
            0, 1, "abc", (False, False), (False, False, 0, 0), [True, True], (False, False, -1), (False, False, 3),
            (False, False, True), (False, False, False), (0, False, 0), (False, 1, 0), (None, False, 0),
            (False, "", 0), (False, False, "0"), (False, False, None), (False, False, [0]), ([], False, 0),
            (False, {}, 0), (False, False, (1,)), {False: 1, True: 2, 5: 3}, (False, False, 10 ** 30),
            (False, False, Rule([], [])),
        ]
        for kind in wrong:
            self.assert_error(BadKind, {"side": "root", "number": 0}, Rule, [kind], [])
            self.assert_error(BadKind, {"side": "root", "number": 1}, Rule, [(False, False, 0), kind, None], [None])
            self.assert_error(BadKind, {"side": "others", "number": 0}, Rule, [], [kind, (False, False, 0)])
            self.assert_error(BadKind, {"side": "others", "number": 2}, Rule,
                              [(False, False, 0)], [(False, False, 0), [False, False, 1], kind])

    def test_a_kind_twice_in_one_list(self):
        kind = (True, False, 1)
        self.assert_error(BadKind, {"side": "root", "number": 1}, Rule, [kind, kind], [])
        self.assert_error(BadKind, {"side": "root", "number": 2}, Rule,
                          [kind, (True, True, 1), list(kind)], [kind, kind])
        self.assert_error(BadKind, {"side": "others", "number": 3}, Rule,
                          [kind], [list(kind), (True, False, 0), (False, False, 1), kind, kind])
        self.assertEqual(Rule([kind], [kind]).root, Rule([kind], [list(kind)]).others)

    def test_root_is_ahead_of_others(self):
        self.assert_error(BadKind, {"side": "root", "number": 1}, Rule, [(False, False, 0), None], [None])

    def test_equality(self):
        rule = Rule([(False, False, 0), (True, False, 1)], [(True, False, 0)])
        self.assertTrue(rule == Rule([(True, False, 1), (False, False, 0)], [[True, False, 0]]))
        self.assertFalse(rule != Rule([(True, False, 1), (False, False, 0)], [[True, False, 0]]))
        for other in (Rule([(False, False, 0)], [(True, False, 0)]), Rule(rule.root, []), Rule(rule.others, rule.root),
                      Rule(rule.root, [(True, False, 0), (True, True, 0)]), Rule(rule.root, [(True, False, 1)])):
            self.assertFalse(rule == other)
            self.assertTrue(rule != other)

    def test_no_value_of_another_class_is_equal(self):
        rule = Rule([], [])
        others = [value for value in odd_values() if not isinstance(value, Rule)]
        for other in others + [((), ()), [(), ()], Tree.of("ab", []), rule.root]:
            self.assertIs(rule == other, False)
            self.assertIs(other == rule, False)
            self.assertIs(rule != other, True)


class KeepsTest(TreesCase):
    def test_the_examples_of_the_document(self):
        plain, joined = known_rule("plain"), known_rule("joined")
        tree = joined.tree_of("ab", ["ab", "b"])
        self.assertEqual(
            [kind_of(tree, ""), kind_of(tree, "a"), plain.broken_at(tree), joined.broken_at(tree), plain.keeps(tree)],
            [(False, False, 2), (False, True, 1), "a", None, False])
        self.assertEqual(
            [plain.is_exact(), joined.tree_of("ab", ["ab", "b"]).row("a"), known_rule("bare").is_exact()],
            [True, ("a", False, True), False])

    def test_the_first_broken_place_in_order(self):
        tree = Tree("zab", [("", False, False), ("a", False, False), ("ab", False, False), ("b", False, False),
                            ("z", True, False), ("zb", True, False), ("za", False, False)])
        plain = known_rule("plain")
        self.assertEqual(plain.broken_at(tree), "za")
        self.assertEqual(Rule([], plain.others).broken_at(tree), "")
        self.assertEqual(Rule(plain.root, []).broken_at(tree), "z")
        self.assertEqual(Rule(plain.root, [(True, False, 2), (True, False, 0), (False, False, 0)]).broken_at(tree), "a")
        self.assertIsNone(known_rule("bare").broken_at(tree))
        self.assertIs(known_rule("bare").keeps(tree), True)
        self.assertIs(plain.keeps(tree), False)

    def test_root_and_others_are_told_apart(self):
        root = Tree("ab", [("", True, False)])
        leaf = Tree("ab", [("", False, False), ("a", True, False)])
        root_only = Rule([(True, False, 0), (False, False, 1)], [])
        others_only = Rule([(False, False, 1)], [(True, False, 0)])
        self.assertEqual([root_only.broken_at(root), others_only.broken_at(root)], [None, ""])
        self.assertEqual([root_only.broken_at(leaf), others_only.broken_at(leaf)], ["a", None])

    def test_each_kind_taken_away_is_missed(self):
        tree = Tree("ab", [("", True, True), ("a", True, False), ("aa", False, True), ("ab", False, False),
                           ("b", False, True), ("bb", True, True)])
        free = known_rule("free")
        self.assertIsNone(free.broken_at(tree))
        for kind in ALL_KINDS:
            less = Rule(ALL_KINDS, [other for other in ALL_KINDS if other != kind])
            at = [row[0] for row in tree.rows if row[0] != "" and kind_of(tree, row[0]) == kind]
            self.assertEqual(less.broken_at(tree), at[0] if at else None)
            less = Rule([other for other in ALL_KINDS if other != kind], ALL_KINDS)
            self.assertEqual(less.keeps(tree), kind != (True, True, 2))


class ExactTest(TreesCase):
    def test_known_and_mixed_rules(self):
        for rule in exact_rules():
            self.assertIs(rule.is_exact(), True)
        for rule in (known_rule("bare"), known_rule("free"), Rule([], []), Rule(ALL_KINDS, [])):
            self.assertIs(rule.is_exact(), False)

    def test_one_kind_less(self):
        for rule in exact_rules():
            for at in range(6):
                self.assertIs(Rule(rule.root[:at] + rule.root[at + 1:], rule.others).is_exact(), False)
            for at in range(5):
                self.assertIs(Rule(rule.root, rule.others[:at] + rule.others[at + 1:]).is_exact(), False)

    def test_one_kind_more(self):
        for rule in exact_rules():
            for kind in ALL_KINDS:
                if kind not in rule.root:
                    self.assertIs(Rule(rule.root + (kind,), rule.others).is_exact(), False)
                if kind not in rule.others:
                    self.assertIs(Rule(rule.root, rule.others + (kind,)).is_exact(), False)

    def test_one_flag_turned(self):
        for rule in exact_rules():
            for mark, flag, children in rule.root:
                root = [kind for kind in rule.root if kind != (mark, flag, children)] + [(mark, not flag, children)]
                self.assertIs(Rule(root, rule.others).is_exact(), mark or children > 0)
            for mark, flag, children in rule.others:
                others = [kind for kind in rule.others if kind != (mark, flag, children)] + [(mark, not flag, children)]
                self.assertIs(Rule(rule.root, others).is_exact(), True)

    def test_one_kind_in_the_place_of_another(self):
        plain = known_rule("plain")
        bare_leaf = [kind for kind in plain.others if kind != (True, False, 0)] + [(False, False, 0)]
        self.assertIs(Rule(plain.root, bare_leaf).is_exact(), False)
        twice = [kind for kind in plain.root if kind != (True, False, 2)] + [(True, True, 1)]
        self.assertIs(Rule(twice, plain.others).is_exact(), False)
        twice = [kind for kind in plain.others if kind != (True, False, 2)] + [(True, True, 1)]
        self.assertIs(Rule(plain.root, twice).is_exact(), False)


class TreeOfTest(TreesCase):
    def test_flags_by_the_kinds(self):
        tree = Rule(MIXED_ROOT, MIXED_OTHERS).tree_of("ba", ["aab", "aa", "ba", "b", "abb"])
        self.assertEqual(tree.letters, "ba")
        self.assertEqual(tree.rows, (
            ("", False, False), ("b", True, True), ("ba", True, False), ("a", False, False), ("ab", False, True),
            ("abb", True, False), ("aa", True, True), ("aab", True, False)))

    def test_the_root(self):
        rule = Rule(MIXED_ROOT, MIXED_OTHERS)
        for words, row in (([], ("", False, False)), ([""], ("", True, True)), (["a"], ("", False, True)),
                           (["a", ""], ("", True, False)), (["a", "b"], ("", False, False)),
                           (["a", "b", ""], ("", True, True))):
            self.assertEqual(rule.tree_of("ab", words).row(""), row)
            self.assertEqual(rule.tree_of("ab", tuple(words)).row(""), row)

    def test_it_is_the_only_tree_with_these_words(self):
        places = first_places("ab", 6)
        for rule in exact_rules():
            known = {}
            for size in range(1, 7):
                for tree in rule.trees("ab", size):
                    known.setdefault(tree.words(), []).append(tree)
            for many in range(4):
                for words in itertools.combinations(places, many):
                    tree = rule.tree_of("ab", list(words)[::-1])
                    self.assertEqual(known[tree.words()], [tree])
                    self.assertEqual(sorted(tree.words()), sorted(words))
                    self.assertTrue(rule.keeps(tree))

    def test_words_are_not_changed(self):
        words = ["b", "ab", ""]
        known_rule("joined").tree_of("ab", words)
        self.assertEqual(words, ["b", "ab", ""])

    def test_errors_in_order(self):
        plain, bare = known_rule("plain"), known_rule("bare")
        long_words = [letter + "a" * 199 for letter in "abcdefghijk"]
        self.assert_error(NotExact, {}, bare.tree_of, "aa", [None])
        self.assert_error(NotExact, {}, bare.tree_of, "ab", [])
        self.assert_error(BadLetters, {"letters": "aa"}, plain.tree_of, "aa", [None])
        self.assert_error(BadWord, {"number": 11}, plain.tree_of, "abcdefghijk", long_words + ["z"])
        self.assert_error(BadWord, {"number": 11}, plain.tree_of, "abcdefghijk", long_words + [long_words[0]])
        self.assert_error(TooMany, {"what": "places", "many": 2201, "most": 2000},
                          plain.tree_of, "abcdefghijk", long_words)
        for letters in odd_values() + ["", "a", 5]:
            self.assert_error(BadLetters, {"letters": letters}, plain.tree_of, letters, [])
        for word in odd_values() + ["c", "a" * 201, 0]:
            self.assert_error(BadWord, {"number": 1}, plain.tree_of, "ab", ["a", word, word])

    def test_words_of_some_2000_places(self):
        joined = known_rule("joined")
        words = [letter + "a" * 199 for letter in "abcdefghi"] + ["j" + "a" * 198]
        tree = joined.tree_of("abcdefghij", words)
        self.assertEqual((tree.size, tree.words()), (2000, tuple(words)))
        self.assertEqual(sum(row[2] for row in tree.rows), 2000 - 11)
        words[-1] += "b"
        self.assert_error(TooMany, {"what": "places", "many": 2001, "most": 2000}, joined.tree_of, "abcdefghij", words)
        words = first_places("abc", 2000)
        self.assertEqual(known_rule("plain").tree_of("abc", words), Tree.of("abc", words))


class KnownRuleTest(TreesCase):
    def test_the_four_names(self):
        flagless = [kind for kind in ALL_KINDS if not kind[1]]
        wanted = {
            "plain": Rule(flagless, [kind for kind in flagless if kind != (False, False, 0)]),
            "joined": Rule(flagless, [(False, True, 1), (False, False, 2), (True, False, 0), (True, False, 1),
                                      (True, False, 2)]),
            "bare": Rule(flagless, flagless),
            "free": Rule(ALL_KINDS, ALL_KINDS),
        }
        for name in NAMES:
            rule = known_rule(name)
            self.assertIs(type(rule), Rule)
            self.assertEqual((rule.root, rule.others), (wanted[name].root, wanted[name].others))
            self.assertTrue(rule == wanted[name])
            self.assertTrue(rule == known_rule(name))
        for one, other in itertools.combinations(NAMES, 2):
            self.assertFalse(known_rule(one) == known_rule(other))

    def test_any_other_value(self):
        for name in odd_values() + ["", "Plain", "plain ", "up", "plai", "plainjoined", 0, ["plain"], ("free",),
                                    {"plain": 1}, known_rule("plain")]:
            self.assert_error(BadName, {"name": name}, known_rule, name)


if __name__ == "__main__":
    unittest.main()
