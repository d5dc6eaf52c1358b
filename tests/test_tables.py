"""Promise [14]: what a call does below a place."""

import itertools
import unittest

from lettertrees import tables as tables_file
from lettertrees.cells import cells, is_let
from lettertrees.errors import TooMany
from lettertrees.plays import play
from lettertrees.routines import Routine
from lettertrees.rules import Rule, kind_of, known_rule
from lettertrees.tables import longer, tables, whole
from tests.drawing import Drawer
from tests.reference import reference_before, reference_rest
from tests.support import TreesCase
from tests.test_plays import PUT, STRIKE, STRIKE_KEPT
from tests.test_right import BEGINS, HAS, LONGEST

BOOLS = (False, True)
KINDS = list(itertools.product(BOOLS, BOOLS, (0, 1, 2)))
ALL_CELLS = list(itertools.product(BOOLS, BOOLS, (0, 1, 2), BOOLS))
NAMES = ("plain", "joined", "bare", "free")
PLAIN, FREE, BARE = known_rule("plain"), known_rule("free"), known_rule("bare")
LEAF, MARKED, FORK = (False, False, 0, False), (True, False, 0, False), (False, False, 1, True)
NO_ENTRY = (False, False, False)
TEXTS = [HAS, PUT, STRIKE, STRIKE_KEPT, BEGINS, LONGEST]

# Down changes x and y: in a circle, by an exchange, or by making two alike, as flags and others tell it; so any change
# of the four values comes up, and up tells it.
MANY = Routine(
    [("if", ("f",), [("if", ("others", 0), [
        ("if", ("x",),
         [("if", ("y",), [("set", "y", False)], [("set", "x", False)])],
         [("if", ("y",), [("set", "x", True)], [("set", "y", True)])])], [
        ("if", ("not", ("x",)), [("if", ("y",), [("set", "y", False)], [("set", "y", True)])], [])])],
      [("if", ("and", ("others", 0), ("not", ("x",))), [("set", "y", False)], [])])],
    [], [("if", ("not", ("true",)), [("stop",)], [])])


def entries(routine):
    names = routine.names()
    return [(x, y, kept) for x in (BOOLS if "x" in names else (False,)) for y in (BOOLS if "y" in names else (False,))
            for kept in (BOOLS if "p" in names else (False,))]


def built(routine, rule, way):
    """The table of a rest with these cells, built up from the last one."""
    table = None
    for cell in reversed(way):
        table = longer(routine, rule, cell, table)
    return table


def plain_tables(routine, rule, most=10 ** 6):
    """All tables that come up, by going over all cells of all tables again and again."""
    found = {longer(routine, rule, cell, None) for cell in [None] + ALL_CELLS
             if cell is None or is_let(rule, cell, False, False)}
    new = found
    while new and len(found) <= most:
        more = set()
        for table in new:
            if not table[0]:
                more.add(longer(routine, rule, None, table))
            for cell in ALL_CELLS:
                if is_let(rule, cell, False, table[0]):
                    more.add(longer(routine, rule, cell, table))
        new = more - found
        found = found | new
    return tuple(sorted(found))


def rule_of(tree, drawer, chance):
    """A rule that the tree keeps, with other kinds at will."""
    root = [kind for kind in KINDS if kind == kind_of(tree, "") or drawer.random.random() < chance]
    held = [kind_of(tree, row[0]) for row in tree.rows[1:]]
    return Rule(root, [kind for kind in KINDS if kind in held or drawer.random.random() < chance])


class OutcomeCase(TreesCase):
    def outcomes(self, routine, rule, way):
        return dict(built(routine, rule, way)[5])

    def assert_how(self, how, routine, way, entry=NO_ENTRY, rule=FREE):
        self.assertEqual(self.outcomes(routine, rule, way)[entry][0], how)


class LongerTest(OutcomeCase):
    def test_the_example_of_the_document(self):
        has = Routine.read(HAS)
        self.assertEqual(longer(has, PLAIN, (True, False, 0, False), None),
                         (True, True, False, False, True, (((False, False, False),
                                                            (("end", "yes"), True, True, True)),)))
        self.assertEqual(longer(has, PLAIN, None, None),
                         (False, False, False, False, False, (((False, False, False),
                                                               (("end", "no"), False, True, False)),)))
        self.assertEqual(len(tables(has, PLAIN)), 8)

    def test_kinds_of_the_values(self):
        drawer = Drawer(51)
        for _ in range(200):
            routine = drawer.routine(6)
            for table in tables(routine, known_rule(drawer.random.choice(NAMES))):
                self.assertIs(type(table), tuple)
                self.assertEqual([type(part) for part in table], [bool] * 5 + [tuple])
                self.assertEqual([entry for entry, _ in table[5]], entries(routine))
                for entry, outcome in table[5]:
                    self.assertEqual([type(part) for part in entry], [bool] * 3)
                    self.assert_outcome(outcome)

    def assert_outcome(self, outcome):
        self.assertEqual([type(part) for part in outcome], [tuple, bool, bool, bool])
        how = outcome[0]
        if how[0] == "up":
            self.assertEqual([type(part) for part in how], [str, bool, bool, str])
            self.assertIn(how[3], ("none", "above", "end", "last", "other"))
        elif how[0] == "misuse":
            self.assertIn(how, [("misuse", "there"), ("misuse", "none"), ("misuse", "p")])
        else:
            self.assertIn(how[0], ("end", "cut"))
            self.assertEqual(len(how), 2)
            self.assertIn(how[1], ("yes", "no", "none", "above", "end", "last", "other"))

    def test_what_is_there_ahead_of_the_call(self):
        nothing = Routine([], [], [])
        for way, told in (
                ([LEAF], (True, False, False, False, False)), ([MARKED], (True, True, False, False, True)),
                ([FORK], (True, False, True, False, True)), ([(False, False, 1, False)],
                                                             (True, False, False, False, False)),
                ([(True, True, 2, True)], (True, True, True, False, True)), ([None], (False,) * 5),
                ([None, None], (False,) * 5), ([MARKED, None], (True, False, True, True, False)),
                ([LEAF, MARKED], (True, True, False, False, True)), ([MARKED, LEAF], (True, False, True, True, False)),
                ([FORK, LEAF], (True, False, True, False, False)), ([LEAF, FORK], (True, False, True, False, True)),
                ([MARKED, MARKED], (True, True, True, True, True)),
                ([FORK, None, None], (True, False, True, False, False)),
                ([LEAF, MARKED, None], (True, False, True, True, False))):
            self.assertEqual(built(nothing, FREE, way)[:5], told, way)

    def test_up_and_end(self):
        nothing = Routine([], [], [])
        self.assert_how(("end", "none"), nothing, [MARKED])
        self.assert_how(("end", "none"), nothing, [LEAF, None])
        wander = Routine([("if", ("x",), [("set", "y", True)], [("set", "x", True)])], [], [("set", "f", True)])
        for x, y in itertools.product(BOOLS, repeat=2):
            self.assert_how(("up", x, y, "none"), wander, [MARKED], (x, y, False))
            self.assert_how(("up", True, x or y, "none"), wander, [LEAF, LEAF], (x, y, False))
            self.assert_how(("up", True, True, "none"), wander, [LEAF, LEAF, LEAF], (x, y, False))
            self.assert_how(("up", True, True, "none"), wander, [LEAF, LEAF, None, None], (x, y, False))
        stop = Routine([], [], [("if", ("others", 0), [("stop",)], [("set", "f", True)])])
        self.assert_how(("end", "none"), stop, [LEAF, LEAF])
        self.assert_how(("up", False, False, "none"), stop, [FORK, LEAF])
        self.assert_how(("end", "none"), stop, [FORK, LEAF, FORK])
        self.assert_how(("up", False, False, "none"), stop, [LEAF])

    def test_answers_that_are_places(self):
        turn = Routine([], [("return", "node")], [])
        for way, word in (([MARKED], "end"), ([LEAF], "end"), ([None], "end"), ([LEAF, None], "other"),
                          ([MARKED, None], "last"), ([MARKED, LEAF, None], "other"), ([MARKED, MARKED, None], "last"),
                          ([MARKED, MARKED], "end"), ([LEAF, MARKED, None, None], "last")):
            self.assert_how(("end", word), turn, way)
        up = Routine([], [], [("if", ("f",), [("return", "node")], [])])
        for way, word in (([(True, True, 0, False), LEAF], "last"), ([(False, True, 0, False), LEAF], "other"),
                          ([(True, True, 0, False), MARKED, LEAF], "other"), ([(True, True, 0, False), MARKED], "last"),
                          ([LEAF, (True, True, 0, False), LEAF], "last")):
            self.assert_how(("end", word), up, way)
        # What had a mark ahead of the call counts, not what has one then.
        self.assert_how(("end", "last"), Routine([("unmark",)], [("unmark",), ("return", "node")], []), [MARKED, None])
        self.assert_how(("end", "other"), Routine([], [("mark",), ("return", "node")], []), [LEAF, None])
        self.assert_how(("end", "other"), Routine([("mark",)], [("return", "node")], []), [MARKED, LEAF, None])

    def test_the_word_for_p(self):
        told = [("return", "p")]
        keep = Routine([("if", ("f",), [("keep",)], [])], told, [])
        flag, both = (False, True, 0, False), (True, True, 0, False)
        for way, kept, word in (([LEAF], False, "none"), ([LEAF], True, "above"), ([LEAF, LEAF], True, "above"),
                                ([flag, LEAF], False, "other"), ([flag, LEAF], True, "other"),
                                ([both, LEAF], True, "last"),
                                ([both, MARKED, LEAF], False, "other"), ([both, flag, LEAF], False, "other"),
                                ([both, both, LEAF], False, "last"), ([LEAF, both, LEAF, None], True, "last"),
                                ([flag], True, "above"), ([flag], False, "none")):
            self.assert_how(("end", word), keep, way, (False, False, kept))
        at_end = Routine([], [("keep",), ("return", "p")], [])
        self.assert_how(("end", "end"), at_end, [LEAF], (False, False, True))
        self.assert_how(("end", "last"), at_end, [MARKED, None], (False, False, True))
        for up in ([("set", "f", True)], [("if", ("here",), [("return", "node")], [])]):
            climb = Routine([("if", ("f",), [("keep",)], [])], [], up)
            ends = len(up[0]) == 4
            self.assert_how(("end", "other") if ends else ("up", False, False, "other"), climb, [LEAF, flag, LEAF])
            self.assert_how(("end", "last") if ends else ("up", False, False, "last"), climb, [LEAF, both, LEAF])
            self.assert_how(("up", False, False, "above"), climb, [LEAF, LEAF], (False, False, True))
            self.assert_how(("up", False, False, "none"), climb, [LEAF, LEAF])
        lowest = Routine([], [("keep",)], [("if", ("here",), [("return", "yes")],
                                            [("if", ("p",), [("set", "f", True)], [])])])
        self.assert_how(("up", False, False, "end"), lowest, [LEAF, MARKED, LEAF])
        self.assert_how(("up", False, False, "other"), lowest, [MARKED, LEAF, None])

    def test_return_with_cut_whose_p_is_above(self):
        for answer, word in (("yes", "yes"), ("no", "no"), ("node", "end"), ("p", "above")):
            routine = Routine([], [("unmark",), ("return", answer, "cut")], [])
            table = dict(built(routine, FREE, [MARKED, MARKED])[5])
            # What is in the rest is told as if nothing above were cut.
            self.assertEqual(table[False, False, True], (("cut", word), False, True, True))
            self.assertEqual(table[False, False, False], (("misuse", "p"), False, True, True))
        routine = Routine([], [("return", "node", "cut")], [])
        self.assert_how(("cut", "last"), routine, [MARKED, None], (False, False, True))
        self.assert_how(("cut", "other"), routine, [MARKED, LEAF, None], (False, False, True))
        self.assert_how(("cut", "end"), routine, [MARKED, MARKED], (False, False, True))

    def test_return_with_cut_whose_p_is_in_the_rest(self):
        flag = (False, True, 0, False)
        for answer, word in (("yes", "yes"), ("no", "no"), ("node", "end"), ("p", "other")):
            routine = Routine([("if", ("f",), [("keep",)], [])], [("return", answer, "cut")], [])
            for kept in BOOLS:
                outcome = self.outcomes(routine, FREE, [flag, LEAF, MARKED])[False, False, kept]
                self.assertEqual(outcome, (("end", word), False, True, True))
                outcome = self.outcomes(routine, FREE, [LEAF, flag, MARKED, MARKED])[False, False, kept]
                self.assertEqual(outcome, (("end", word), False, False, True))
            # A leaf that has no mark is left.
            self.assertEqual(self.outcomes(routine, PLAIN, [flag, LEAF, MARKED])[NO_ENTRY][3], False)
        # p is above first, and then in the rest; the lower one counts.
        routine = Routine([("keep",)], [("return", "p", "cut")], [])
        self.assertEqual(self.outcomes(routine, FREE, [MARKED, LEAF, MARKED])[False, False, True],
                         (("end", "other"), False, True, True))
        self.assertEqual(self.outcomes(routine, FREE, [MARKED, MARKED])[False, False, True],
                         (("end", "last"), False, True, True))

    def test_return_with_cut_at_the_place_itself(self):
        routine = Routine([], [("keep",), ("return", "yes", "cut")], [])
        for way in ([MARKED], [LEAF], [LEAF, MARKED], [LEAF, None], [None]):
            self.assert_how(("misuse", "none"), routine, way, (False, False, True))
        stop = Routine([("if", ("f",), [("keep",), ("stop",)], [])], [("return", "node", "cut")], [])
        flag = (False, True, 0, False)
        self.assertEqual(self.outcomes(stop, FREE, [flag, MARKED])[NO_ENTRY], (("end", "other"), False, True, True))
        self.assertEqual(self.outcomes(stop, FREE, [flag, MARKED, LEAF])[NO_ENTRY],
                         (("end", "other"), False, False, True))
        self.assertEqual(self.outcomes(stop, FREE, [LEAF, flag, MARKED, LEAF])[NO_ENTRY],
                         (("end", "other"), False, False, True))
        self.assert_how(("misuse", "none"), stop, [flag, None])
        made = Routine([("make",), ("keep",), ("stop",)], [("return", "p", "cut")], [])
        self.assertEqual(self.outcomes(made, FREE, [MARKED, None])[NO_ENTRY], (("end", "last"), False, True, True))

    def test_misuses(self):
        self.assert_how(("misuse", "there"), Routine([("make",)], [], []), [LEAF, LEAF])
        self.assert_how(("misuse", "there"), Routine([("make",), ("make",)], [], []), [LEAF, None])
        self.assert_how(("misuse", "none"), Routine([], [("cut",)], [("cut",)]), [LEAF])
        self.assert_how(("misuse", "none"), Routine([], [], [("cut",), ("cut",)]), [LEAF, LEAF])
        self.assert_how(("misuse", "none"), Routine([], [("cut",)], []), [LEAF, None])
        self.assert_how(("misuse", "p"), Routine([], [("return", "yes", "cut")], []), [LEAF, None])
        outcome = self.outcomes(Routine([("mark",), ("make",), ("make",)], [], []), PLAIN, [LEAF, None])[NO_ENTRY]
        self.assertEqual(outcome, (("misuse", "there"), False, False, False))

    def test_cells_that_are_out(self):
        put = Routine.read(PUT)
        for length in range(1, 5):
            # Each place is made on the way, and only the last one gets a mark.
            self.assertEqual(self.outcomes(put, PLAIN, [None] * length)[NO_ENTRY], (("end", "yes"), True, True, True))
            self.assertEqual(self.outcomes(put, PLAIN, [FORK] + [None] * length)[NO_ENTRY],
                             (("end", "yes"), True, True, True))
        mark = Routine([("mark",), ("if", ("next",), [("set", "f", True)], [("make",)])], [], [])
        self.assertEqual(self.outcomes(mark, FREE, [None, None])[NO_ENTRY], (("end", "none"), False, False, True))
        self.assertEqual(self.outcomes(mark, FREE, [None])[NO_ENTRY], (("end", "none"), False, True, True))
        has = Routine.read(HAS)
        # The call stands at the first one, and makes nothing: the others are not there.
        self.assertEqual(self.outcomes(has, PLAIN, [None, None, None])[NO_ENTRY], (("end", "no"), False, True, False))
        self.assertEqual(self.outcomes(has, BARE, [None, None, None])[NO_ENTRY], (("end", "no"), False, True, True))
        seen = Routine([("if", ("or", ("mark",), ("or", ("f",), ("not", ("others", 0)))), [("return", "no")],
                         [("return", "yes")])], [("if", ("next",), [("return", "no")], [("return", "node")])], [])
        self.assert_how(("end", "yes"), seen, [None, None])
        self.assert_how(("end", "end"), seen, [None])

    def test_made_and_not_gone_to(self):
        make = Routine([("make",), ("stop",)], [("return", "yes")], [])
        for rule, is_kept in ((PLAIN, False), (BARE, True), (FREE, True)):
            self.assertEqual(self.outcomes(make, rule, [MARKED, None])[NO_ENTRY],
                             (("end", "yes"), False, True, is_kept))
            self.assertEqual(self.outcomes(make, rule, [MARKED, None, None])[NO_ENTRY],
                             (("end", "yes"), False, True, is_kept))
        cut = Routine([("make",), ("stop",)], [("cut",), ("return", "yes")], [])
        self.assertEqual(self.outcomes(cut, PLAIN, [MARKED, None])[NO_ENTRY], (("end", "yes"), False, True, True))
        at_once = Routine([("if", ("next",), [("return", "no")], [("make",), ("return", "yes")])], [], [])
        self.assertEqual(self.outcomes(at_once, PLAIN, [MARKED, None])[NO_ENTRY], (("end", "yes"), False, True, False))
        self.assertEqual(self.outcomes(at_once, PLAIN, [MARKED, MARKED])[NO_ENTRY], (("end", "no"), True, True, True))

    def test_what_is_cut_off(self):
        cut = Routine([], [], [("cut",)])
        for way, same in (([LEAF, MARKED], True), ([LEAF, LEAF], True), ([LEAF, LEAF, MARKED], True),
                          ([FORK, MARKED], True),
                          ([LEAF, FORK], False), ([LEAF, MARKED, LEAF], False), ([LEAF, LEAF, MARKED, LEAF], False),
                          ([MARKED, FORK, LEAF], False), ([MARKED, LEAF], True),
                          ([LEAF, (False, False, 1, False)], True)):
            self.assertEqual(self.outcomes(cut, FREE, way)[NO_ENTRY],
                             (("up", False, False, "none"), False, same, True), way)
        stop = Routine([("stop",)], [("cut",)], [])
        self.assertEqual(self.outcomes(stop, FREE, [LEAF, MARKED])[NO_ENTRY], (("end", "none"), False, True, True))
        self.assertEqual(self.outcomes(stop, FREE, [LEAF, MARKED, LEAF])[NO_ENTRY],
                         (("end", "none"), False, False, True))
        self.assertEqual(self.outcomes(stop, PLAIN, [LEAF, MARKED])[NO_ENTRY], (("end", "none"), False, True, False))
        self.assertEqual(self.outcomes(stop, PLAIN, [FORK, MARKED])[NO_ENTRY], (("end", "none"), False, True, True))

    def test_entries_of_routines(self):
        for names in [()] + [chosen for many in (1, 2, 3) for chosen in itertools.combinations("pxy", many)]:
            test = ("true",)
            for name in names:
                test = ("and", test, (name,))
            routine = Routine([], [("if", test, [("return", "yes")], [("return", "no")])], [])
            table = longer(routine, FREE, LEAF, None)
            told = [entry for entry, _ in table[5]]
            self.assertEqual(told, entries(routine))
            self.assertEqual(len(told), 2 ** len(names))
            for entry, outcome in table[5]:
                held = all(dict(zip("xyp", entry))[name] for name in names)
                self.assertEqual(outcome[0], ("end", "yes" if held else "no"))

    def test_what_is_passed_is_not_changed(self):
        put = Routine.read(PUT)
        before = (put.down, put.turn, put.up, PLAIN.root, PLAIN.others)
        table = longer(put, PLAIN, MARKED, None)
        again = longer(put, PLAIN, FORK, table)
        self.assertEqual(again, longer(put, PLAIN, FORK, table))
        self.assertEqual(table, longer(put, PLAIN, MARKED, None))
        self.assertEqual((put.down, put.turn, put.up, PLAIN.root, PLAIN.others), before)

    def test_against_calls_on_trees_with_these_cells(self):
        drawer = Drawer(52)
        hows = {}
        for number in range(5000):
            routine = drawer.routine(1 + number % 8, 3)
            tree, word = drawer.tree("abc", 9), drawer.word("abc", 4)
            rule = rule_of(tree, drawer, 0.4)
            way = cells(tree, word)
            for depth in range(len(word), 0, -1):
                table = built(routine, rule, way[depth:])
                self.assertEqual(table[:5], reference_before(tree, word, depth))
                for entry, outcome in table[5]:
                    self.assertEqual(outcome, reference_rest(rule, tree, routine, word, depth, entry),
                                     (routine.text(), tree.rows, word, depth, entry))
                    hows[outcome[0]] = hows.get(outcome[0], 0) + 1
        for how in [("end", "above"), ("end", "end"), ("end", "last"), ("end", "other"), ("end", "none"),
                    ("cut", "above"),
                    ("cut", "end"), ("cut", "last"), ("cut", "other"), ("cut", "yes"), ("misuse", "there"),
                    ("misuse", "none"),
                    ("misuse", "p")] + [("up", x, y, p) for x in BOOLS for y in BOOLS
                                        for p in ("none", "above", "end", "last", "other")]:
            self.assertGreater(hows.get(how, 0), 5, how)

    def test_defined_in_their_file(self):
        for told in (longer, whole, tables):
            self.assertEqual(told.__module__, "lettertrees.tables")
        self.assertIs(tables_file.whole, whole)


class WholeTest(TreesCase):
    def test_the_only_entry(self):
        for text in TEXTS + [MANY.text()]:
            routine = Routine.read(text)
            for way in ([MARKED], [LEAF, MARKED], [FORK, None]):
                table = whole(routine, FREE, way[0], built(routine, FREE, way[1:]))
                self.assertEqual([type(part) for part in table], [bool] * 5 + [tuple])
                self.assertEqual([entry for entry, _ in table[5]], [NO_ENTRY])
                self.assertTrue(table[0])

    def outcome(self, routine, way, rule=FREE):
        return whole(routine, rule, way[0], built(routine, rule, way[1:]))[5][0][1]

    def test_never_up_and_never_cut(self):
        for routine in (MANY, Routine([], [], [("set", "x", True)]), Routine([], [("mark",)], [("unmark",)])):
            for way in ([LEAF], [MARKED, None], [LEAF, LEAF], [LEAF, MARKED, FORK]):
                self.assertEqual(self.outcome(routine, way)[0], ("end", "none"))
        cut = Routine([("if", ("root",), [("keep",)], [])], [("return", "p", "cut")], [])
        self.assertEqual(self.outcome(cut, [MARKED, LEAF, MARKED]), (("end", "last"), False, True, True))
        self.assertEqual(self.outcome(cut, [LEAF, MARKED, MARKED]), (("end", "other"), False, False, True))
        self.assertEqual(self.outcome(cut, [LEAF, None]), (("misuse", "none"), False, True, True))
        self.assertEqual(self.outcome(cut, [LEAF]), (("misuse", "p"), False, True, True))

    def test_the_root_has_kinds_of_its_own(self):
        nothing = Routine([], [], [])
        for root, others, wanted in (([], [], False), ([(False, False, 1)], [(True, False, 0)], True),
                                     ([(False, False, 0)], [(True, False, 0)], False),
                                     ([(False, False, 1)], [], False)):
            self.assertEqual(self.outcome(nothing, [LEAF, MARKED], Rule(root, others))[3], wanted)
        # A leaf without a mark is let at the root of plain trees, and nowhere else.
        unmark = Routine([], [("unmark",)], [])
        self.assertEqual(self.outcome(unmark, [MARKED], PLAIN), (("end", "none"), False, True, True))
        self.assertEqual(self.outcome(unmark, [LEAF, MARKED], PLAIN), (("end", "none"), False, True, False))

    def test_at_the_root(self):
        told = Routine([], [("if", ("root",), [("return", "node")], [("return", "no")])], [])
        for way, word in (([LEAF], "end"), ([MARKED], "end"), ([MARKED, None], "last"), ([LEAF, None, None], "other")):
            self.assertEqual(self.outcome(told, way)[0], ("end", word))
        self.assertEqual(self.outcome(told, [LEAF, LEAF])[0], ("end", "no"))
        up = Routine([], [], [("if", ("root",), [("return", "node")], [])])
        for way, word in (([LEAF, LEAF], "other"), ([MARKED, LEAF, None], "last"), ([MARKED, MARKED, LEAF], "other")):
            self.assertEqual(self.outcome(up, way)[0], ("end", word))

    def test_against_plays(self):
        """Answers, kept words and rules of plays on all small trees of rules, and on drawn ones."""
        drawer = Drawer(53)
        routines = [Routine.read(text) for text in TEXTS] + [drawer.routine(5) for _ in range(40)]
        trees = [(known_rule(name), tree) for name in NAMES for size in (1, 2, 3, 4)
                 for tree in known_rule(name).trees("ab", size)[::1 if size < 3 else 7 if size == 3 else 60]]
        for _ in range(300):
            tree = drawer.tree("abc", 8)
            trees.append((rule_of(tree, drawer, 0.5), tree))
        for rule, tree in trees:
            for routine in drawer.random.sample(routines, 6):
                self.check(rule, tree, routine, drawer.word("ab", 4))

    def check(self, rule, tree, routine, word):
        way = cells(tree, word)
        table = whole(routine, rule, way[0], built(routine, rule, way[1:]))
        self.assertEqual(table[:5], reference_before(tree, word, 0))
        self.assertEqual(table[5], ((NO_ENTRY, reference_rest(rule, tree, routine, word, 0, NO_ENTRY, True)),))
        trace = play(tree, routine, word)
        how, kept, same, all_let = table[5][0][1]
        if trace.kind is not None:
            self.assertEqual(how, ("misuse", trace.kind))
        elif isinstance(trace.answer, tuple):
            marked = [place for place in tree.words() if word.startswith(place) and place != word]
            place = trace.answer[1]
            name = "end" if place == word else "last" if marked and place == max(marked, key=len) else "other"
            self.assertEqual(how, ("end", name))
        else:
            self.assertEqual(how, ("end", trace.answer or "none"))
        self.assertEqual(kept, word in trace.tree.words())
        self.assertEqual(same, [one for one in trace.tree.words() if one != word] == [
            one for one in tree.words() if one != word])
        self.assertEqual(all_let, rule.keeps(trace.tree))


class TablesTest(TreesCase):
    def test_ascending_and_each_once(self):
        drawer = Drawer(54)
        for number in range(300):
            found = tables(drawer.routine(1 + number % 8, 3), known_rule(NAMES[number % 4]))
            self.assertIs(type(found), tuple)
            self.assertEqual(list(found), sorted(set(found)))

    def test_against_a_plain_closing(self):
        drawer = Drawer(55)
        rules = [known_rule(name) for name in NAMES] + [Rule([], []), Rule(KINDS, []), Rule([], KINDS)]
        for _ in range(12):
            chance = drawer.random.random()
            rules.append(Rule(*[[kind for kind in KINDS if drawer.random.random() < chance] for _ in range(2)]))
        routines = [Routine.read(text) for text in TEXTS] + [Routine([], [], [])]
        for number in range(40):
            routines.append(drawer.routine(1 + number % 9, 3))
        for number, routine in enumerate(routines):
            for rule in rules[number % 2::2] if number > 6 else rules:
                self.assertEqual(tables(routine, rule), plain_tables(routine, rule))

    def test_closed_under_longer(self):
        for text in TEXTS:
            routine = Routine.read(text)
            for name in NAMES:
                rule = known_rule(name)
                found = tables(routine, rule)
                self.assertIn(longer(routine, rule, None, None), found)
                for cell in ALL_CELLS:
                    if is_let(rule, cell, False, False):
                        self.assertIn(longer(routine, rule, cell, None), found)
                    for table in found:
                        if is_let(rule, cell, False, table[0]):
                            self.assertIn(longer(routine, rule, cell, table), found)

    def test_the_tables_of_ways_of_trees_come_up(self):
        drawer = Drawer(56)
        for number in range(60):
            routine = drawer.routine(6)
            rule = known_rule(NAMES[number % 4])
            found = tables(routine, rule)
            for size in (1, 2, 3):
                for tree in rule.trees("ab", size)[:40]:
                    word = drawer.word("ab", 4)
                    for depth in range(1, len(word) + 1):
                        self.assertIn(built(routine, rule, cells(tree, word)[depth:]), found)

    def test_a_rule_that_lets_nothing(self):
        nothing = Routine([], [], [])
        self.assertEqual(tables(nothing, Rule([], [])),
                         ((False, False, False, False, False, ((NO_ENTRY, (("end", "none"), False, True, False)),)),))
        self.assertEqual(tables(nothing, Rule(KINDS, [])), tables(nothing, Rule([], [])))

    def test_more_than_two_thousand(self):
        fields = {"what": "tables", "many": 2001, "most": 2000}
        for _ in range(2):
            self.assert_error(TooMany, fields, tables, MANY, FREE)
        self.assertGreater(len(plain_tables(MANY, FREE, 2100)), 2000)
        # The same routine, and a rule that lets fewer kinds.
        found = tables(MANY, PLAIN)
        self.assertEqual(found, plain_tables(MANY, PLAIN))
        self.assertLess(len(found), 2000)

    def test_equal_calls_return_equal_results(self):
        drawer = Drawer(57)
        for _ in range(50):
            routine, rule = drawer.routine(6), known_rule(drawer.random.choice(NAMES))
            again = Routine.read(routine.text())
            self.assertEqual(tables(routine, rule), tables(routine, rule))
            self.assertEqual(tables(routine, rule), tables(again, Rule(rule.root[::-1], rule.others)))


if __name__ == "__main__":
    unittest.main()
