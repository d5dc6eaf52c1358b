"""Promise [15]: right or wrong."""

import itertools
import unittest

from lettertrees import verdicts
from lettertrees.cells import is_let
from lettertrees.errors import BadWish, TooMany
from lettertrees.houses import known_house
from lettertrees.plays import play
from lettertrees.right import judged
from lettertrees.routines import Routine
from lettertrees.rules import Rule, known_rule
from lettertrees.tables import longer, tables
from lettertrees.trees import Tree
from lettertrees.verdicts import Right, Wrong, is_fine, is_right, is_wrong, verdict
from tests.drawing import Drawer
from tests.searching import BOOLS, KINDS, NAMES, all_words, drawn_rule, is_wrong_on, least_tree, variants
from tests.support import TreesCase, odd_values
from tests.test_tables import ALL_CELLS, MANY, built

WISHES = ("has", "put", "strike", "begins", "longest")
HOUSES = ("up", "kept", "joined", "lazy")
PLAIN, FREE, BARE = known_rule("plain"), known_rule("free"), known_rule("bare")
HAS = known_house("up").routines["has"]
LAZY = Routine.read("turn:\n    if at end and marked:\n        unmark\n        return yes\n    return no")
ANSWERS = ("yes", "no", "none", "end", "last", "other", "above")


def table_with(there, kept, more, marks, begun, how, behind):
    return there, kept, more, marks, begun, (((False, False, False), (how,) + behind),)


class IsFineTest(TreesCase):
    def wished(self, wish, kept, marks, begun):
        return {"has": "yes" if kept else "no", "put": "no" if kept else "yes", "strike": "yes" if kept else "no",
                "begins": "yes" if begun else "no", "longest": "end" if kept else "last" if marks else "none"}[wish]

    def test_each_fact_turned_about(self):
        for wish in WISHES:
            for there, kept, more, marks, begun in itertools.product(BOOLS, repeat=5):
                for answer in ANSWERS:
                    for then, same, all_let in itertools.product(BOOLS, repeat=3):
                        right = (answer == self.wished(wish, kept, marks, begun) and same and all_let
                                 and then == {"put": True, "strike": False}.get(wish, kept))
                        table = table_with(there, kept, more, marks, begun, ("end", answer), (then, same, all_let))
                        self.assertIs(is_fine(wish, table), right, (wish, table))

    def test_misuses(self):
        for wish in WISHES:
            for kind in ("there", "none", "p"):
                for kept, then in itertools.product(BOOLS, repeat=2):
                    table = table_with(True, kept, False, False, kept, ("misuse", kind), (then, True, True))
                    self.assertIs(is_fine(wish, table), False)

    def test_bad_wishes(self):
        table = table_with(True, True, False, False, True, ("end", "yes"), (True, True, True))
        for name in odd_values() + ["Has", "has ", "right", ("has",), ["has"]]:
            self.assert_error(BadWish, {"name": name}, is_fine, name, table)


class VerdictTest(TreesCase):
    def assert_verdict(self, routine, rule, wish):
        """The verdict is shown, and has as few places as a plain search finds; the verdict."""
        told = verdict(routine, rule, wish)
        self.assertEqual((told.routine, told.rule, told.wish), (routine, rule, wish))
        small = least_tree(rule, is_wrong_on(routine, rule, wish))
        if isinstance(told, Right):
            self.assertIsNone(small)
            self.assertIs(is_right(told), True)
            self.assertIs(type(told.tables), tuple)
            self.assertEqual(told.tables, tables(routine, rule))
            return told
        self.assertIs(type(told), Wrong)
        self.assertIs(is_wrong(told), True)
        self.assertIs(is_right(Right(routine, rule, wish, tables(routine, rule))), False)
        self.assertTrue(rule.keeps(told.tree))
        trace = play(told.tree, routine, told.word)
        self.assertEqual(judged(wish, rule, told.tree, told.word, trace), told.how)
        self.assertNotEqual(told.how, "right")
        if small is None:
            self.assertGreater(told.tree.size, 3)
        else:
            self.assertEqual(told.tree.size, small)
        return told

    def test_the_example_of_the_document(self):
        right, wrong = [verdict(one, PLAIN, wish) for one, wish in ((HAS, "has"), (LAZY, "strike"))]
        self.assertIsInstance(right, Right)
        self.assertIs(is_right(right), True)
        self.assertEqual((wrong.tree.size, wrong.tree.words(), wrong.how), (2, (wrong.word,), "rule"))

    def test_known_houses_under_all_known_rules(self):
        for name in HOUSES:
            house = known_house(name)
            for own, routine in house.routines.items():
                for wish in WISHES:
                    self.assertIs(isinstance(self.assert_verdict(routine, house.rule, wish), Right), wish == own)
                    for other in NAMES:
                        self.assert_verdict(routine, known_rule(other), wish)

    def test_one_statement_otherwise(self):
        drawer = Drawer(71)
        sizes = {}
        for name in HOUSES:
            house = known_house(name)
            for wish, routine in house.routines.items():
                for other in drawer.random.sample(variants(routine, drawer), 12):
                    rule = house.rule if drawer.random.random() < 0.7 else drawn_rule(drawer)
                    told = self.assert_verdict(other, rule, wish)
                    size = None if isinstance(told, Right) else told.tree.size
                    sizes[size] = sizes.get(size, 0) + 1
        for size in (None, 1, 2, 3):
            self.assertGreater(sizes.get(size, 0), 1, sizes)

    def test_drawn_routines_and_rules(self):
        drawer = Drawer(72)
        for number in range(120):
            routine = Drawer(7200 + number, drawer.random.choice(["", "p", "x", "xp"])).routine(1 + number % 7, 3)
            self.assert_verdict(routine, drawn_rule(drawer), drawer.random.choice(WISHES))

    def test_all_words_over_three_letters(self):
        drawer = Drawer(73)
        words = all_words("abc", 4)
        for number in range(6):
            house = known_house(HOUSES[number % 4])
            wish = drawer.random.choice(list(house.routines))
            other = drawer.random.choice(variants(house.routines[wish], drawer))
            rule = known_rule(drawer.random.choice(("plain", "joined")))
            told = verdict(other, rule, wish)
            small = least_tree(rule, is_wrong_on(other, rule, wish), words=words, most=3)
            if isinstance(told, Right):
                self.assertIsNone(small)
            else:
                self.assertEqual(small or 4, min(4, told.tree.size))

    def test_drawn_trees_of_four_places(self):
        drawer = Drawer(74)
        for name in HOUSES:
            house = known_house(name)
            for wish, routine in house.routines.items():
                for other in drawer.random.sample(variants(routine, drawer), 5):
                    told = verdict(other, house.rule, wish)
                    if isinstance(told, Right) or told.tree.size > 4:
                        trees = house.rule.trees("ab", 4)
                        for tree in drawer.random.sample(trees, 25):
                            for word in ("", "a", "ab", "aba", "abaa", "b", "ba"):
                                self.assertEqual(judged(wish, house.rule, tree, word, play(tree, other, word)), "right")

    def test_rules_with_which_no_tree_can_be_made(self):
        for root, others in (([], []), ([], KINDS), ([(False, False, 1)], []), ([(True, True, 2)], [(True, False, 1)]),
                             ([(False, False, 1)], [(False, False, 2), (True, True, 1)])):
            told = verdict(LAZY, Rule(root, others), "has")
            self.assertIs(type(told), Right)
            self.assertIs(is_right(told), True)

    def test_parts_that_keep_a_word_are_larger(self):
        says_no = Routine([], [("return", "no")], [])
        # Leaves are bare, so a marked place stands above one of them, or two.
        for marked, size in (((True, True, 1), 3), ((True, False, 2), 4)):
            rule = Rule([(False, False, 1)], [(False, False, 0), marked])
            told = verdict(says_no, rule, "begins")
            self.assertEqual((told.tree.size, told.how, len(told.tree.words())), (size, "answer", 1))
            rule = Rule([(False, False, 2)], [(False, False, 0), marked])
            self.assertEqual(verdict(says_no, rule, "begins").tree.size, size + 1)
        only_two = Rule([(False, True, 2)], [(False, True, 0), (True, False, 2)])
        self.assertEqual(verdict(says_no, only_two, "begins").tree.size, 5)

    def test_words_beyond_the_tree_and_the_empty_word(self):
        # Wrong only where the way leads out.
        out = Routine.read("turn:\n    if at end and marked:\n        return yes\n    if at end:\n        return no")
        told = self.assert_verdict(out, PLAIN, "has")
        self.assertEqual((told.tree.size, told.how, told.tree.has(told.word)), (1, "answer", False))
        # Wrong only for the empty word.
        empty = Routine.read("turn:\n    if at root and at end:\n        return node\n    if at end and marked:\n"
                             "        return yes\n    return no")
        self.assertEqual(self.assert_verdict(empty, PLAIN, "has").word, "")
        # Right for all kept words but the last one above the end.
        above = Routine.read("down:\n    if marked and not p:\n        keep\nturn:\n    if at end and marked:\n"
                             "        keep\n    return p")
        told = self.assert_verdict(above, PLAIN, "longest")
        self.assertEqual((told.tree.size, len(told.tree.words()), told.how), (2, 2, "answer"))

    def test_long_ways(self):
        # x and y count the places on the way: the fifth one is taken for a kept word.
        count = Routine.read(
            "down:\n    if x and y:\n        x = false\n        y = false\n        return yes\n    if x:\n"
            "        y = true\n        x = false\n    elif y:\n        x = true\n    else:\n        x = true\n"
            "turn:\n    if at end and marked:\n        return yes\n    return no")
        told = verdict(count, PLAIN, "has")
        self.assertEqual((told.tree.size, told.how), (4, "answer"))
        self.assertIs(is_wrong(told), True)
        deep = verdict(count, Rule(PLAIN.root, [kind for kind in PLAIN.others if kind != (True, False, 0)]
                                   + [(True, True, 0)]), "has")
        self.assertEqual((deep.tree.size, deep.how), (4, "answer"))

    def test_errors_in_their_order(self):
        for name in odd_values() + ["hass"]:
            self.assert_error(BadWish, {"name": name}, verdict, MANY, FREE, name)
        self.assert_error(TooMany, {"what": "tables", "many": 2001, "most": 2000}, verdict, MANY, FREE, "has")

    def test_equal_calls_return_equal_results(self):
        drawer = Drawer(75)
        for number in range(40):
            routine, rule = drawer.routine(6), drawn_rule(drawer)
            wish = drawer.random.choice(WISHES)
            before = (routine.text(), rule.root, rule.others)
            one, other = verdict(routine, rule, wish), verdict(Routine.read(routine.text()), rule, wish)
            self.assertEqual(type(one), type(other))
            if isinstance(one, Wrong):
                self.assertEqual((one.tree, one.word, one.how), (other.tree, other.word, other.how))
            else:
                self.assertEqual(one.tables, other.tables)
            self.assertEqual((routine.text(), rule.root, rule.others), before)

    def test_defined_in_their_file(self):
        for told in (is_fine, verdict, Right, Wrong, is_right, is_wrong):
            self.assertEqual(told.__module__, "lettertrees.verdicts")
        self.assertIs(verdicts.verdict, verdict)


class IsRightTest(TreesCase):
    def test_tables_left_out_doubled_and_altered(self):
        for name in HOUSES:
            house = known_house(name)
            for wish, routine in house.routines.items():
                found = tables(routine, house.rule)
                self.assertIs(is_right(Right(routine, house.rule, wish, found)), True)
                self.assertIs(is_right(Right(routine, house.rule, wish, list(found[::-1]))), True)
                self.assertIs(is_right(Right(routine, house.rule, wish, found + found[:1])), True)
                self.assertIs(is_right(Right(routine, house.rule, wish, [])), False)
                for number, table in enumerate(found):
                    rest = list(found[:number] + found[number + 1:])
                    self.assertIs(is_right(Right(routine, house.rule, wish, rest)), False)
                    altered = rest + [table[:2] + (not table[2],) + table[3:]]
                    if altered[-1] not in found:
                        self.assertIs(is_right(Right(routine, house.rule, wish, altered)), False)

    def test_wrong_wishes_and_rules(self):
        up = known_house("up")
        for wish in WISHES:
            for own, routine in up.routines.items():
                right = Right(routine, up.rule, wish, tables(routine, up.rule))
                self.assertIs(is_right(right), wish == own)
        # Tables of a rule that lets less are not closed under one that lets more.
        self.assertIs(is_right(Right(HAS, FREE, "has", tables(HAS, PLAIN))), False)

    def test_more_tables_than_come_up(self):
        put = known_house("up").routines["put"]
        more = set(tables(put, PLAIN))
        ahead = [built(put, PLAIN, [(False, False, 1, False)])]
        while ahead:
            table = ahead.pop()
            if table not in more:
                more.add(table)
                ahead += [longer(put, PLAIN, cell, table) for cell in [None] + ALL_CELLS
                          if cell is None and not table[0] or cell and is_let(PLAIN, cell, False, table[0])]
        self.assertGreater(len(more), len(tables(put, PLAIN)))
        self.assertIs(is_right(Right(put, PLAIN, "put", sorted(more))), True)

    def test_the_list_is_copied(self):
        found = list(tables(HAS, PLAIN))
        right = Right(HAS, PLAIN, "has", found)
        found.clear()
        self.assertIs(is_right(right), True)
        self.assertIs(type(right.tables), tuple)

    def test_rules_of_no_tree_need_some_tables(self):
        self.assertIs(is_right(Right(HAS, Rule([], []), "has", [])), False)
        self.assertIs(is_right(Right(HAS, Rule([], []), "put", tables(HAS, Rule([], [])))), True)


class IsWrongTest(TreesCase):
    def told(self, routine, rule, wish, tree, word, how):
        return is_wrong(Wrong(routine, rule, wish, tree, word, how))

    def test_each_how(self):
        one, empty = Tree.of("ab", ["a"]), Tree.of("ab", [])
        put, strike = [known_house("up").routines[wish] for wish in ("put", "strike")]
        for routine, wish, tree, word, right in (
                (Routine([], [("cut",)], []), "has", one, "a", "misuse"), (put, "has", one, "b", "answer"),
                (put, "strike", one, "a", "answer"),
                (Routine([], [("mark",), ("return", "no")], []), "has", one, "b", "words"),
                (LAZY, "strike", one, "a", "rule"), (HAS, "has", one, "a", "right"), (strike, "strike", one, "b", "right"),
                (put, "put", empty, "", "right")):
            for how in ("right", "misuse", "answer", "words", "rule"):
                self.assertIs(self.told(routine, PLAIN, wish, tree, word, how), how == right and how != "right")

    def test_trees_that_do_not_keep_the_rule(self):
        bare = Tree("ab", [("", False, False), ("a", False, False)])
        begins = known_house("up").routines["begins"]
        self.assertIs(self.told(begins, PLAIN, "begins", bare, "", "answer"), False)
        self.assertIs(self.told(begins, BARE, "begins", bare, "", "answer"), True)

    def test_words_that_are_none(self):
        says_yes = Routine([], [("return", "yes")], [])
        tree = Tree.of("ab", [])
        for word in odd_values():
            if word != "a":
                self.assertIs(self.told(says_yes, PLAIN, "has", tree, word, "answer"), False)
        self.assertIs(self.told(says_yes, PLAIN, "has", tree, "c", "answer"), False)
        self.assertIs(self.told(says_yes, PLAIN, "has", tree, "a" * 200, "answer"), True)
        self.assertIs(self.told(says_yes, PLAIN, "has", tree, "a" * 201, "answer"), False)

    def test_more_than_two_thousand_places(self):
        rows = [("", False, False)] + [("a" * at, False, False) for at in range(1, 201)]
        for stem in range(9):
            rows += [("a" * stem + "b" + "a" * at, False, False) for at in range(200 - stem)]
        put = known_house("up").routines["put"]
        tree = Tree("abc", rows)
        self.assertLess(tree.size, 2000)
        word = "a" * 3 + "c" * 197
        self.assertGreater(tree.size + 197, 2000)
        self.assertIs(self.told(put, FREE, "has", tree, word, "answer"), False)
        self.assertIs(self.told(put, FREE, "has", tree, word[:4], "answer"), True)


if __name__ == "__main__":
    unittest.main()
