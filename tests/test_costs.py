"""Promise [19]: steps."""

import itertools
import unittest

from lettertrees.costs import costs
from lettertrees.errors import BadSize, TooMany
from lettertrees.houses import known_house
from lettertrees.parts import tree_along
from lettertrees.plays import play
from lettertrees.routines import Routine
from lettertrees.rules import Rule, known_rule
from lettertrees.runs import cells_of
from lettertrees.trees import Tree
from tests.counting import exact_rule_of, most_steps, unflagged_steps
from tests.drawing import Drawer
from tests.searching import KINDS, NAMES, drawn_rule, small_trees, variants
from tests.support import TreesCase, odd_values
from tests.test_tables import MANY

HOUSES = ("up", "kept", "joined", "lazy")
PLAIN, JOINED, BARE, FREE = [known_rule(name) for name in NAMES]
UP, KEPT, LACED = known_house("up"), known_house("kept"), known_house("joined")
NOTHING = Routine([], [], [])


def all_ways(rule, length):
    """All ways of so many letters, told by cells, the last one first."""
    cells = cells_of(rule)
    rests = [[]]
    for _ in range(length):
        rests = [rest + [cell] for rest in rests for cell in cells[(False, bool(rest) and rest[-1] is not None)]
                 + ([] if rest and rest[-1] is not None else [None])]
    return [rest + [cell] for rest in rests for cell in cells[(True, bool(rest) and rest[-1] is not None)]]


class WorstTest(TreesCase):
    def test_the_examples_of_the_document(self):
        steps = costs(UP.routines["has"], UP.rule)
        self.assertEqual([[steps.worst(size) for size in range(4)], steps.slope, steps.by_words(3)],
                         [[1, 2, 3, 4], 1, None])
        self.assertEqual(costs(LACED.routines["has"], LACED.rule).by_words(3), 4)

    def check(self, routine, rule, sizes, most=3):
        """worst and slowest, against plays on all small trees."""
        told = costs(routine, rule)
        trees = [tree for same in small_trees(rule, "abc", most) for tree in same]
        for size in sizes:
            worst, slowest = told.worst(size), told.slowest(size)
            found = most_steps(routine, rule, size, trees)
            if worst is None:
                self.assertIsNone(slowest)
                self.assertIsNone(found)
                continue
            tree, word = slowest
            self.assertEqual((type(slowest), type(tree), type(word), len(word)), (tuple, Tree, str, size))
            self.assertTrue(rule.keeps(tree))
            self.assertEqual(len(play(tree, routine, word).steps), worst)
            if found is not None:
                self.assertLessEqual(found, worst)
            if found != worst:
                self.assertGreater(tree.size, most)
        return told

    def test_known_routines_against_all_small_trees(self):
        for name in HOUSES:
            for routine in known_house(name).routines.values():
                for rule in (PLAIN, JOINED, BARE):
                    self.check(routine, rule, range(4), 3 if rule != BARE else 2)

    def test_drawn_routines_and_rules(self):
        drawer = Drawer(101)
        pool = [one for name in HOUSES for one in known_house(name).routines.values()]
        for number in range(60):
            routine = Drawer(10100 + number, drawer.random.choice(["", "p", "x", "xp"])).routine(1 + number % 6, 3)
            if number % 2:
                routine = drawer.random.choice(variants(drawer.random.choice(pool), drawer))
            self.check(routine, drawn_rule(drawer), range(5), 2)

    def test_drawn_trees(self):
        drawer = Drawer(102)
        for name in HOUSES:
            house = known_house(name)
            for routine in house.routines.values():
                told = costs(routine, house.rule)
                for _ in range(30):
                    words = {drawer.word("abc", 4) for _ in range(4)}
                    rule = house.rule if house.rule.is_exact() else PLAIN
                    tree, word = rule.tree_of("abc", sorted(words)), drawer.word("abc", 5)
                    self.assertLessEqual(len(play(tree, routine, word).steps), told.worst(len(word)))

    def test_all_sizes(self):
        for routine, rule, first, slope in (
                (UP.routines["strike"], PLAIN, 1, 2), (UP.routines["has"], PLAIN, 1, 1),
                (KEPT.routines["strike"], PLAIN, 2, 1), (NOTHING, FREE, 1, 1), (Routine([("stop",)], [], []), FREE, 1, 0),
                (LACED.routines["strike"], JOINED, 1, 2), (UP.routines["put"], BARE, 1, 1)):
            told = self.check(routine, rule, (0, 1, 2, 50, 99, 100), 2)
            self.assertEqual(told.slope, slope)
            for size in range(1, 101):
                self.assertEqual(told.worst(size), first + slope * size)
            self.assertEqual(told.worst(0), 1)
            self.assertEqual([told.worst(size) for size in (100, 3, 100)], [first + slope * size for size in (100, 3, 100)])

    def test_cuts_at_a_kept_place_are_a_step_more(self):
        for length in range(1, 8):
            tree, word = costs(KEPT.routines["strike"], PLAIN).slowest(length)
            steps = play(tree, KEPT.routines["strike"], word).steps
            self.assertEqual([way for _, way in steps], ["down"] * (length + 1) + ["cut"])
        at_once = Routine([], [("keep",), ("return", "yes", "cut")], [])
        self.assertEqual([costs(at_once, PLAIN).worst(size) for size in range(4)], [2, 3, 4, 5])
        never = Routine([], [("return", "yes", "cut")], [])
        self.assertEqual([costs(never, PLAIN).worst(size) for size in range(4)], [1, 2, 3, 4])

    def test_routines_that_stop(self):
        # It counts the places by x and y, and stops at the fourth one.
        count = ("down:\n    if x and y:\n        stop\n    elif x:\n        x = false\n        y = true\n"
                 "    elif y:\n        x = true\n    else:\n        x = true")
        told = self.check(Routine.read(count), PLAIN, range(6), 2)
        self.assertEqual([told.worst(size) for size in range(7)], [1, 2, 3, 4, 4, 4, 4])
        self.assertEqual(told.slope, 0)
        half_up = Routine.read("down:\n    if x:\n        x = false\n    else:\n        x = true\nup:\n    if x:\n"
                               "        return yes\n    x = true")
        told = self.check(half_up, PLAIN, range(6), 2)
        self.assertEqual(told.slope, 1)
        # Up as long as nothing is marked: the ways that are marked cost less.
        marked = Routine.read("up:\n    if marked:\n        stop")
        self.assertEqual(costs(marked, Rule([(True, False, 0), (True, False, 1)], [(True, False, 0), (True, False, 1)]))
                         .slope, 1)
        self.assertEqual(costs(marked, PLAIN).slope, 2)

    def test_no_tree_keeps_the_rule(self):
        for rule in (Rule([], []), Rule([], KINDS), Rule([(True, False, 1)], [(True, False, 1)])):
            told = costs(UP.routines["strike"], rule)
            self.assertEqual([told.worst(size) for size in (0, 1, 100)], [None] * 3)
            self.assertEqual([told.slowest(size) for size in (0, 1, 100)], [None] * 3)
            self.assertEqual(told.slope, 0)
            self.assertEqual([told.by_words(many) for many in (0, 1, 60)], [None] * 3)
        alone = costs(UP.routines["has"], Rule([(False, True, 0)], []))
        self.assertEqual([alone.worst(0), alone.worst(100), alone.slope, alone.by_words(0)], [1, 1, 0, 0])

    def test_slopes_of_drawn_routines(self):
        drawer = Drawer(103)
        slopes = {}
        for number in range(200):
            routine = Drawer(10300 + number, drawer.random.choice(["", "p", "x", "xy"])).routine(1 + number % 8, 3)
            told = costs(routine, drawn_rule(drawer))
            self.assertIs(type(told.slope), int)
            if told.worst(0) is not None:
                growth = max(told.worst(size) for size in range(90, 96)) - max(told.worst(size) for size in range(60, 66))
                self.assertEqual(growth, 30 * told.slope, routine.text())
            slopes[told.slope] = slopes.get(told.slope, 0) + 1
        for slope in (0, 1, 2):
            self.assertGreater(slopes[slope], 5)

    def test_bad_sizes(self):
        told = costs(UP.routines["has"], PLAIN)
        for size in odd_values() + [-1, 101, 10 ** 30, "3", (3,)]:
            self.assert_error(BadSize, {"size": size}, told.worst, size)
            self.assert_error(BadSize, {"size": size}, told.slowest, size)
        for many in odd_values() + [-1, 61, 100, "3", (3,)]:
            self.assert_error(BadSize, {"size": many}, told.by_words, many)
        empty = costs(UP.routines["has"], Rule([], []))
        self.assert_error(BadSize, {"size": 101}, empty.worst, 101)
        self.assert_error(BadSize, {"size": True}, empty.slowest, True)
        self.assert_error(BadSize, {"size": 61}, empty.by_words, 61)

    def test_too_many_tables(self):
        self.assert_error(TooMany, {"what": "tables", "many": 2001, "most": 2000}, costs, MANY, FREE)

    def test_equal_calls_return_equal_results(self):
        drawer = Drawer(104)
        for _ in range(20):
            routine, rule = drawer.routine(5), drawn_rule(drawer)
            one, other = costs(routine, rule), costs(Routine.read(routine.text()), rule)
            other.worst(9)
            for size in (5, 0, 9, 5):
                self.assertEqual(one.worst(size), other.worst(size))
                self.assertEqual(one.slowest(size), other.slowest(size))
            for many in (2, 0, 7):
                self.assertEqual(one.by_words(many), other.by_words(many))
            self.assertEqual(one.slope, other.slope)
        self.assertEqual(costs.__module__, "lettertrees.costs")
        for name in ("worst", "slowest", "by_words"):
            self.assertIn(name, vars(type(one)))


class ByWordsTest(TreesCase):
    def test_known_houses(self):
        """Under the rule joined a way is as short as its words; elsewhere any way may be long."""
        for many in range(61):
            for wish, first in (("has", 1), ("longest", 1), ("begins", 1)):
                self.assertEqual(costs(LACED.routines[wish], JOINED).by_words(many), first + many)
            # One place more than words, and the step up to the place that is joined no more.
            self.assertEqual(costs(LACED.routines["strike"], JOINED).by_words(many), 1 if many == 0 else many + 2)
        # A word may lead out of the tree as far as it likes.
        self.assertEqual([costs(LACED.routines["put"], JOINED).by_words(many) for many in (0, 1, 60)], [None] * 3)
        for rule in (BARE, FREE):
            self.assertEqual([costs(UP.routines["has"], rule).by_words(many) for many in (0, 1, 60)], [None] * 3)
        # No words: the root alone. One word: as far down as one likes.
        self.assertEqual([costs(UP.routines["has"], PLAIN).by_words(many) for many in (0, 1, 60)], [1, None, None])

    def test_flags_that_the_routine_sets_itself(self):
        # Each step up begins at a place that was flagged on the way down.
        flags = Routine.read("down:\n    f = true\nup:\n    if not true:\n        stop")
        self.assertEqual([costs(flags, JOINED).by_words(many) for many in range(4)], [1, 2, 3, 4])
        plain = Routine.read("up:\n    if not true:\n        stop")
        self.assertEqual([costs(plain, JOINED).by_words(many) for many in range(4)], [1, 3, 5, 7])
        # Taking the flags off makes the steps up count.
        off = Routine.read("down:\n    f = false\nup:\n    if not true:\n        stop")
        self.assertEqual([costs(off, JOINED).by_words(many) for many in range(2)], [1, None])
        # A cut is counted by the flag of its place as it is then.
        for flag, more in (("f = true", 0), ("f = false", 1)):
            cut = Routine.read(f"down:\n    keep\n    {flag}\n    stop\nturn:\n    return yes, cut")
            told = costs(cut, Rule([(False, False, 1)], [(True, True, 0)]))
            self.assertEqual([told.by_words(0), told.by_words(1)], [None, 1 + more])
            self.assertEqual(told.worst(1), 2)

    def test_no_tree_of_so_few_words(self):
        two = Rule([(False, False, 2)], [(True, False, 0)])
        told = costs(UP.routines["has"], two)
        self.assertEqual([told.by_words(many) for many in (0, 1, 2, 3, 60)], [None, None, 2, 2, 2])
        bare = Rule([(True, True, 2)], [(False, False, 0), (True, False, 1)])
        told = costs(UP.routines["has"], bare)
        self.assertEqual([told.by_words(many) for many in (0, 1, 2, 3)], [None, 1, 2, 3])

    def test_against_all_short_ways(self):
        """Ways are told by cells; what hangs beside them is as small as can be."""
        drawer = Drawer(105)
        pool = [one for name in HOUSES for one in known_house(name).routines.values()]
        equal, grows = 0, 0
        for number in range(50):
            routine = Drawer(10500 + number, drawer.random.choice(["", "p", "x", "xp"])).routine(1 + number % 6, 3)
            if number % 2:
                routine = drawer.random.choice(variants(drawer.random.choice(pool), drawer))
            rule = drawer.random.choice([JOINED, exact_rule_of(drawer), Rule(
                drawer.random.sample(KINDS, drawer.random.randint(1, 3)),
                drawer.random.sample(KINDS, drawer.random.randint(1, 3)))])
            most = {}
            for length in range(4):
                for way in all_ways(rule, length):
                    tree, word = tree_along(rule, way)
                    key = (len(tree.words()), length)
                    most[key] = max(most.get(key, -1), unflagged_steps(tree, routine, word))
            told = costs(routine, rule)
            for many in range(3):
                found = [most[key] for key in most if key[0] <= many]
                if told.by_words(many) is None:
                    longest = [most[key] for key in most if key[0] <= many and key[1] == 3]
                    grows += not found or max(longest) == max(found)
                else:
                    self.assertLessEqual(max(found), told.by_words(many))
                    equal += max(found) == told.by_words(many)
        self.assertGreater(equal, 60)
        self.assertGreater(grows, 10)

    def test_sizes_in_order(self):
        for rule in (JOINED, PLAIN):
            told = costs(LACED.routines["strike"], rule)
            numbers = [told.by_words(many) for many in range(61)]
            self.assertTrue(all(one <= after for one, after in itertools.pairwise(numbers) if after is not None))


if __name__ == "__main__":
    unittest.main()
