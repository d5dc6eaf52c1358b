"""Promise [17]: two routines side by side."""

import itertools
import unittest

from lettertrees.alike import Alike, Unlike, alike, unlike_on
from lettertrees.errors import BadWord, TooMany
from lettertrees.houses import known_house
from lettertrees.plays import play
from lettertrees.routines import Routine
from lettertrees.rules import Rule, known_rule
from lettertrees.trees import Tree
from tests.drawing import Drawer
from tests.searching import KINDS, NAMES, all_words, drawn_rule, least_tree, variants
from tests.support import TreesCase, odd_values
from tests.test_tables import MANY

HOUSES = ("up", "kept", "joined", "lazy")
PLAIN, JOINED, BARE, FREE = [known_rule(name) for name in NAMES]
UP = known_house("up")
NOTHING = Routine([], [], [])
MAKE = Routine([("if", ("not", ("next",)), [("make",)], [])], [], [])


def changed_tests(block, change):
    """A block with all its tests changed."""
    return [("if", change(one[1]), changed_tests(one[2], change), changed_tests(one[3], change)) if one[0] == "if"
            else one for one in block]


def turned_about(block):
    """A block with all its ifs turned about: the test with a not, the blocks the other way round."""
    out = []
    for one in block:
        if one[0] == "if":
            first, second = turned_about(one[2]), turned_about(one[3])
            one = ("if", ("not", one[1]), second, first) if second else ("if", ("not", ("not", one[1])), first, second)
        out.append(one)
    return out


def told_otherwise(routine):
    """Routines that do the same as this one, told otherwise."""
    blocks = (routine.down, routine.turn, routine.up)
    changes = [lambda test: ("not", ("not", test)), lambda test: ("and", test, test), lambda test: ("or", test, test),
               lambda test: ("and", ("true",), test), lambda test: ("or", test, ("not", ("true",)))]
    out = [Routine(*[changed_tests(block, change) for block in blocks]) for change in changes]
    out.append(Routine(*[turned_about(block) for block in blocks]))
    out.append(Routine(*[[("if", ("true",), block, [("unmark",)])] if block else [] for block in blocks]))
    return out


class UnlikeOnTest(TreesCase):
    def test_end_tree_and_nothing(self):
        tree = Tree("ab", [("", False, False), ("a", True, True), ("ab", False, False)])
        yes, no = Routine([], [("return", "yes")], []), Routine([], [("return", "no")], [])
        for one, other, word, told in (
                (yes, no, "a", "end"), (yes, yes, "a", None), (NOTHING, yes, "", "end"),
                (yes, Routine([], [("mark",), ("return", "yes")], []), "", "tree"),
                (yes, Routine([], [("mark",), ("return", "yes")], []), "a", None),
                (yes, Routine([], [("set", "f", True), ("return", "yes")], []), "", "tree"),
                (yes, Routine([], [("set", "f", True), ("return", "yes")], []), "a", None),
                (NOTHING, MAKE, "ab", None),
                (NOTHING, MAKE, "aba", "tree"),
                (NOTHING, Routine([("stop",)], [("cut",)], []), "ab", "tree"),
                (NOTHING, Routine([("stop",)], [("cut",)], []), "", "end"),
                (Routine([], [("cut",)], []), Routine([], [("return", "no", "cut")], []), "", "end"),
                (Routine([], [("cut",)], []), Routine([], [("mark",), ("cut",)], []), "", "tree"),
                (Routine([("make",)], [], []), Routine([], [("cut",)], []), "a", "end"),
                (Routine([], [("return", "node")], []), Routine([], [("keep",), ("return", "p")], []), "ab", None),
                (Routine([("keep",)], [("return", "node")], []), Routine([("keep",)], [("return", "p")], []), "ab",
                 "end"),
                (NOTHING, Routine([], [("return", "p")], []), "ab", None),
                (yes, Routine([], [("mark",), ("return", "no")], []), "", "end")):
            self.assertEqual(unlike_on(one, other, tree, word), told, (one.text(), other.text(), word))
            self.assertEqual(unlike_on(other, one, tree, word), told)

    def test_against_plays(self):
        drawer = Drawer(91)
        for number in range(800):
            one, other = drawer.routine(1 + number % 5), drawer.routine(1 + number % 5)
            tree, word = drawer.tree("abc", 6), drawer.word("abc", 3)
            first, second = play(tree, one, word), play(tree, other, word)
            told = None if first.tree.rows == second.tree.rows else "tree"
            if first.answer != second.answer or first.kind != second.kind:
                told = "end"
            self.assertEqual(unlike_on(one, other, tree, word), told)
            self.assertIsNone(unlike_on(one, one, tree, word))

    def test_errors_as_play(self):
        tree = Tree.of("ab", ["a"])
        for word in odd_values() + ["c", "a" * 201]:
            if word != "a":
                self.assert_error(BadWord, {"number": 0}, unlike_on, NOTHING, NOTHING, tree, word)
        rows = [("", False, False)] + [("a" * at, False, False) for at in range(1, 200)]
        for stem in range(9):
            rows += [("a" * stem + "b" + "a" * at, False, False) for at in range(199 - stem)]
        tree, put = Tree("abc", rows), UP.routines["put"]
        for one, other in ((put, NOTHING), (NOTHING, put)):
            self.assert_error(TooMany, {"what": "places", "many": tree.size + 198, "most": 2000}, unlike_on, one, other,
                              tree, "ab" + "c" * 198)


class AlikeTest(TreesCase):
    def check(self, one, other, rule, words=None, most=3):
        """What alike tells, after a plain search through all small trees."""
        told = alike(one, other, rule)
        words = words or ("", "a", "aa", "aaa", "aaaa")
        small = least_tree(rule, lambda tree, word: unlike_on(one, other, tree, word) is not None, "abc", most, words)
        self.assertEqual((told.one, told.other, told.rule), (one, other, rule))
        if isinstance(told, Alike):
            self.assertIsNone(small, (one.text(), other.text()))
            return None
        self.assertIs(type(told), Unlike)
        self.assertTrue(rule.keeps(told.tree))
        self.assertIsNotNone(told.how)
        self.assertEqual(told.how, unlike_on(one, other, told.tree, told.word))
        if small is None:
            self.assertGreater(told.tree.size, most)
        else:
            self.assertEqual(told.tree.size, small)
        return told

    def test_told_otherwise(self):
        drawer = Drawer(92)
        pool = [one for name in HOUSES for one in known_house(name).routines.values()]
        pool += [drawer.routine(4) for _ in range(10)]
        for number, routine in enumerate(pool):
            for rule in (PLAIN, JOINED, FREE, drawn_rule(drawer)):
                self.assertIs(type(alike(routine, routine, rule)), Alike)
                for other in told_otherwise(routine):
                    self.assertIs(type(alike(routine, other, rule)), Alike, routine.text())
            self.check(routine, told_otherwise(routine)[number % 5], drawn_rule(drawer))

    def test_known_routines_beside_one_another(self):
        for name, second in itertools.product(HOUSES, HOUSES):
            for wish, routine in known_house(name).routines.items():
                other = known_house(second).routines.get(wish, NOTHING)
                self.check(routine, other, known_house(name).rule)
        strikes = [known_house(name).routines["strike"] for name in HOUSES]
        self.assertIs(type(alike(strikes[0], strikes[1], PLAIN)), Alike)
        self.assertIs(type(alike(strikes[0], strikes[1], FREE)), Alike)
        for rule in (PLAIN, BARE):
            self.assertIs(type(alike(strikes[0], strikes[3], rule)), Unlike)

    def test_a_statement_more_or_less(self):
        drawer = Drawer(93)
        sizes = {}
        for name in HOUSES:
            house = known_house(name)
            for routine in house.routines.values():
                for other in drawer.random.sample(variants(routine, drawer), 14):
                    rule = house.rule if drawer.random.random() < 0.5 else drawn_rule(drawer)
                    told = self.check(routine, other, rule)
                    size = told and told.tree.size
                    sizes[size] = sizes.get(size, 0) + 1
        for size in (None, 1, 2, 3):
            self.assertGreater(sizes.get(size, 0), 2, sizes)

    def test_drawn_routines(self):
        drawer = Drawer(94)
        hows = {}
        for number in range(150):
            names, others = [drawer.random.choice(["", "p", "x", "y", "xp"]) for _ in range(2)]
            one = Drawer(9400 + number, names).routine(1 + number % 5, 3)
            other = Drawer(9700 + number, others).routine(1 + number % 5, 3)
            if number % 2:
                other = drawer.random.choice(variants(one, drawer) or [one])
            told = self.check(one, other, drawn_rule(drawer))
            hows[told and told.how] = hows.get(told and told.how, 0) + 1
        for how in ("end", "tree", None):
            self.assertGreater(hows.get(how, 0), 10, hows)

    def test_all_words_over_three_letters(self):
        drawer = Drawer(95)
        for number in range(4):
            house = known_house(HOUSES[number])
            routine = drawer.random.choice(list(house.routines.values()))
            other = drawer.random.choice(variants(routine, drawer))
            self.check(routine, other, house.rule, all_words("abc", 4), 2)

    def test_unlike_names(self):
        """The same told by x, by y, and by p."""
        text = ("down:\n    if marked:\n        {}\nturn:\n    if {}:\n        return yes\n    return no")
        ways = [Routine.read(text.format(*pair)) for pair in (("x = true", "x"), ("y = true", "y"), ("keep", "p"))]
        for one, other in itertools.product(ways, ways):
            for rule in (PLAIN, FREE):
                self.assertIsNone(self.check(one, other, rule))
        count = text.replace("        {}\n", "        if x:\n            y = true\n        x = true\n", 1)
        two = Routine.read(count.format("y"))
        for one in ways:
            told = self.check(one, two, PLAIN)
            self.assertEqual((told.tree.size, told.how), (1, "end"))

    def test_unlike_only_below_a_kept_place(self):
        below = Routine.read("down:\n    if marked:\n        keep\nturn:\n    if p and not at p:\n        return yes\n"
                             "    return no")
        no = Routine.read("turn:\n    return no")
        self.assertIsNone(self.check(below, no, Rule([(False, False, 0), (False, False, 1)], [(True, False, 0)])))
        told = self.check(below, no, PLAIN)
        self.assertEqual((told.tree.size, told.tree.row("")[1], told.how), (2, True, "end"))
        deep = Routine.read("down:\n    if marked and x:\n        stop\n    if marked:\n        x = true")
        deeper = Routine.read("down:\n    if marked and x:\n        f = true\n    if marked:\n        x = true")
        told = self.check(deep, deeper, PLAIN)
        self.assertEqual((told.tree.size, told.how), (2, "tree"))

    def test_unlike_only_off_the_root_and_beyond_the_tree(self):
        off = Routine.read("turn:\n    if not at root:\n        return yes\n    return no")
        no = Routine.read("turn:\n    return no")
        told = self.check(off, no, PLAIN)
        self.assertEqual((told.tree.size, told.how), (2, "end"))
        self.assertIs(type(alike(off, no, Rule([(False, False, 0)], KINDS))), Alike)
        leaves = Routine.read("turn:\n    if not at end:\n        return yes\n    return no")
        told = self.check(leaves, no, PLAIN)
        self.assertEqual((told.tree.size, told.tree.has(told.word)), (1, False))
        # What is made and what is not made differ for words that leave the tree alone.
        make = Routine.read("down:\n    if not next:\n        make\n        stop")
        told = self.check(make, NOTHING, PLAIN)
        self.assertEqual((told.how, told.tree.has(told.word)), ("tree", False))

    def test_what_is_cut_off_no_longer_matters(self):
        flags = "down:\n    if not at root:\n        f = true\nup:\n    if at root:\n        cut"
        one, other = Routine.read(flags), Routine.read(flags.replace("f = true", "unmark"))
        self.assertIsNone(self.check(one, other, FREE))
        self.assertIsNone(self.check(one, Routine.read(flags[flags.index("up:"):]), FREE))
        kept = "down:\n    if at root:\n        keep\n    if not at root:\n        f = true\nturn:\n    return yes, cut"
        self.assertIsNone(self.check(Routine.read(kept), Routine.read(kept.replace("f = true", "unmark")), FREE))
        lower = Routine.read("up:\n    cut\n    return yes")
        self.assertEqual(self.check(lower, Routine.read(flags), FREE).how, "end")

    def test_the_same_place_as_an_answer(self):
        first = Routine.read("down:\n    if marked and not p:\n        keep\nturn:\n    return p")
        last = Routine.read("down:\n    if marked:\n        keep\nturn:\n    return p")
        told = self.check(first, last, PLAIN)
        self.assertEqual((told.tree.size, len(told.tree.words()), told.how), (2, 2, "end"))
        below_root = Rule([(False, False, 0), (False, False, 1)], [(True, False, 0)])
        self.assertIsNone(self.check(first, last, below_root))
        up = Routine.read("turn:\n    x = true\nup:\n    return node")
        stop = Routine.read("down:\n    if not next:\n        stop\n    keep\nturn:\n    if at end:\n        return p\n"
                            "    if p:\n        return p")
        self.check(up, stop, PLAIN)

    def test_long_ways(self):
        # One counts to four and stays there, the other one counts in a ring.
        ring = ("down:\n    if x and y:\n        {}\n    elif x:\n        x = false\n        y = true\n    elif y:\n"
                "        x = true\n    else:\n        x = true\nturn:\n    if x and y:\n        return yes\n    return no")
        one = Routine.read(ring.format("x = false\n        y = false"))
        other = Routine.read(ring.format("x = true"))
        told = self.check(one, other, PLAIN)
        self.assertEqual((told.tree.size, told.how), (4, "end"))
        self.assertIs(type(alike(one, other, Rule([(False, False, 1)], [(True, False, 0)]))), Alike)

    def test_rules_under_which_no_tree_is(self):
        for rule in (Rule([], []), Rule([], KINDS), Rule([(False, False, 1)], [(True, True, 1)])):
            self.assertIs(type(alike(NOTHING, UP.routines["put"], rule)), Alike)

    def test_too_many_tables(self):
        fields = {"what": "tables", "many": 2001, "most": 2000}
        for pair in ((MANY, NOTHING), (NOTHING, MANY), (MANY, MANY)):
            self.assert_error(TooMany, fields, alike, *pair, FREE)

    def test_equal_calls_return_equal_results(self):
        drawer = Drawer(96)
        for _ in range(40):
            one, other, rule = drawer.routine(4), drawer.routine(4), drawn_rule(drawer)
            before = (one.text(), other.text(), rule.root, rule.others)
            told, again = alike(one, other, rule), alike(Routine.read(one.text()), other, rule)
            self.assertEqual(type(told), type(again))
            if isinstance(told, Unlike):
                self.assertEqual((told.tree, told.word, told.how), (again.tree, again.word, again.how))
            self.assertEqual((one.text(), other.text(), rule.root, rule.others), before)

    def test_defined_in_their_file(self):
        for told in (alike, unlike_on, Alike, Unlike):
            self.assertEqual(told.__module__, "lettertrees.alike")


if __name__ == "__main__":
    unittest.main()
