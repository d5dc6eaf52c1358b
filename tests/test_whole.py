"""What holds over the whole program, promises [1] to [21] together."""

import doctest
import os
import re
import unittest

from lettertrees.alike import Alike, alike
from lettertrees.costs import costs
from lettertrees.groves import Grove
from lettertrees.houses import House, is_history, kinds_behind, known_house, least_history, least_rule
from lettertrees.meets import Clash, meets
from lettertrees.plays import play
from lettertrees.right import judged
from lettertrees.rules import Rule, known_rule
from lettertrees.sums import survey, wrong_pairs
from lettertrees.trees import Tree
from lettertrees.verdicts import Right, Wrong, is_right, verdict
from tests.counting import exact_rule_of
from tests.drawing import Drawer
from tests.searching import KINDS, NAMES, drawn_rule, variants
from tests.support import ALPHABET
from tests.test_alike import told_otherwise

HOUSES = ("up", "kept", "joined", "lazy")
WISHES = ("has", "put", "strike", "begins", "longest")
PLAIN, JOINED, BARE, FREE = [known_rule(name) for name in NAMES]
DOCUMENT = os.path.join(os.path.dirname(__file__), "..", "..", "shared", "DOC.md")
ORDERS = ("free", "line", "held")


def size_of(told):
    """The size of the tree of what was told, None if it has none."""
    return told.tree.size if isinstance(told, (Wrong, Clash)) else None


class DocumentTest(unittest.TestCase):
    @unittest.skipUnless(os.path.exists(DOCUMENT), "the document is not beside the project")
    def test_the_examples_of_the_document(self):
        with open(DOCUMENT, encoding="utf-8") as file:
            blocks = re.findall(r"^```\n(.*?)^```$", file.read(), re.M | re.S)
        self.assertGreater(len(blocks), 14)
        for number, block in enumerate(blocks):
            test = doctest.DocTestParser().get_doctest(block, {}, f"block {number}", None, None)
            results = doctest.DocTestRunner(verbose=False).run(test)
            self.assertEqual((results.failed, results.attempted > 0), (0, True), block)


class HistoriesTest(unittest.TestCase):
    def test_trees_and_groves_side_by_side(self):
        for number, name in enumerate(HOUSES):
            house = known_house(name)
            for letters, chosen, longest in (("ab", "ab", 4), (ALPHABET[::-1], "zb", 3)):
                drawer = Drawer(141 + number)
                tree, calls = Tree.of(letters, []), []
                grove = Grove(letters, {"A": (False, False, {})}, "A")
                for _ in range(150):
                    wish, word = drawer.random.choice(list(house.routines)), drawer.word(chosen, longest)
                    calls.append((wish, word))
                    routine = house.routines[wish]
                    trace = play(tree, routine, word)
                    answer, kind, grove = grove.call(routine, word)
                    self.assertEqual(judged(wish, house.rule, tree, word, trace), "right")
                    self.assertEqual((answer, kind, grove.unfolded()), (trace.answer, trace.kind, trace.tree))
                    tree = trace.tree
                    self.assertEqual((grove.size, grove.many), (tree.size, len(tree.words())))
                self.assertFalse(is_history(house, calls))

    def test_a_history_tells_a_wrong_tree(self):
        drawer = Drawer(142)
        found = 0
        for name in ("up", "kept", "joined"):
            house = known_house(name)
            for wish in ("has", "put", "strike"):
                for other in drawer.random.sample(variants(house.routines[wish], drawer), 10):
                    changed = House(house.rule, {**house.routines, wish: other})
                    told = least_history(changed)
                    wrong = [one for one in changed.verdicts().values() if isinstance(one, Wrong)]
                    self.assertEqual(told is None, not wrong)
                    if told is not None:
                        found += 1
                        self.assertTrue(is_history(changed, told))
                        # No tree that shows a wrong one keeps fewer words than the history has made.
                        self.assertLessEqual(len(told), min(len(one.tree.words()) for one in wrong) + 1)
        self.assertGreater(found, 20)

    def test_right_routines_keep_their_least_rule(self):
        for name in HOUSES:
            house = known_house(name)
            least = least_rule(list(house.routines.values()))
            for wish, routine in house.routines.items():
                told = verdict(routine, least, wish)
                self.assertTrue(isinstance(told, Right) and is_right(told))


class AlikeTest(unittest.TestCase):
    def assert_share_all(self, one, other, rule, exact):
        """All that is asked of two routines that are alike under both rules, of which the second one is exact."""
        for wish in WISHES:
            told, again = verdict(one, rule, wish), verdict(other, rule, wish)
            self.assertEqual((type(told), size_of(told)), (type(again), size_of(again)))
            self.assertEqual(wrong_pairs(one, exact, wish, "abc", 4, 3), wrong_pairs(other, exact, wish, "abc", 4, 3))
        self.assertEqual(kinds_behind(one, rule), kinds_behind(other, rule))
        steps = [costs(routine, rule) for routine in (one, other)]
        for size in range(12):
            self.assertEqual(steps[0].worst(size), steps[1].worst(size))
            self.assertEqual(steps[0].by_words(size), steps[1].by_words(size))
        self.assertEqual(steps[0].slope, steps[1].slope)
        surveys = [survey(routine, exact, "abc", 2, 3) for routine in (one, other)]
        self.assertEqual((surveys[0].steps, surveys[0].places, surveys[0].ends),
                         (surveys[1].steps, surveys[1].places, surveys[1].ends))
        for wish in WISHES:
            self.assertEqual(surveys[0].wrong(wish), surveys[1].wrong(wish))
        put = known_house("up").routines["put"]
        for wish in ("has", "strike"):
            told = [least_history(House(exact, {"put": put, wish: routine})) for routine in (one, other)]
            self.assertEqual(*[history and len(history) for history in told])

    def test_told_otherwise(self):
        drawer = Drawer(143)
        pool = [one for name in HOUSES for one in known_house(name).routines.values()]
        pool += [drawer.routine(6, 3) for _ in range(12)]
        for number, routine in enumerate(pool):
            other = told_otherwise(routine)[number % 7]
            self.assert_share_all(routine, other, drawn_rule(drawer), exact_rule_of(drawer))

    def test_variants_that_are_alike(self):
        drawer = Drawer(144)
        found = 0
        for name in HOUSES:
            for routine in known_house(name).routines.values():
                for other in drawer.random.sample(variants(routine, drawer), 12):
                    exact = drawer.random.choice([PLAIN, JOINED])
                    # Alike under free is alike under any rule; steps may differ all the same.
                    if isinstance(alike(routine, other, FREE), Alike):
                        found += 1
                        self.assert_same_verdicts(routine, other, exact)
        self.assertGreater(found, 10)

    def assert_same_verdicts(self, one, other, rule):
        self.assertIsInstance(alike(one, other, rule), Alike)
        for wish in WISHES:
            told, again = verdict(one, rule, wish), verdict(other, rule, wish)
            self.assertEqual((type(told), size_of(told)), (type(again), size_of(again)))
            self.assertEqual(wrong_pairs(one, rule, wish, "ab", 5, 3), wrong_pairs(other, rule, wish, "ab", 5, 3))
        self.assertEqual(kinds_behind(one, rule), kinds_behind(other, rule))

    def test_clashes_of_routines_told_otherwise(self):
        up, kept = known_house("up").routines, known_house("kept").routines
        for one, wish, other, second in ((up["strike"], "strike", up["put"], "put"), (up["put"], "put", up["put"], "put"),
                                         (kept["strike"], "strike", kept["strike"], "strike")):
            for order in ORDERS:
                told = meets(one, wish, other, second, PLAIN, order)
                for changed in told_otherwise(one)[::3]:
                    again = meets(changed, wish, other, second, PLAIN, order)
                    self.assertEqual((type(told), size_of(told)), (type(again), size_of(again)))
                turned = meets(other, second, one, wish, PLAIN, order)
                self.assertEqual((type(told), size_of(told)), (type(turned), size_of(turned)))


class MoreTest(unittest.TestCase):
    def more_of(self, rule, drawer):
        """A rule that lets what this one lets and more."""
        return Rule(*[[kind for kind in KINDS if kind in side or drawer.random.random() < 0.3]
                      for side in (rule.root, rule.others)])

    def assert_at_most(self, one, other):
        """None stands for no least one, or for no bound."""
        if other is not None:
            self.assertTrue(one is not None and one <= other)

    def test_a_rule_that_lets_more(self):
        drawer = Drawer(145)
        pool = [one for name in HOUSES for one in known_house(name).routines.values()]
        pool += [drawer.routine(5, 3) for _ in range(15)]
        for number in range(60):
            rule = drawn_rule(drawer)
            more = self.more_of(rule, drawer)
            for size in (1, 2, 3, 7, 30):
                self.assertLessEqual(rule.number_of_trees("abc", size), more.number_of_trees("abc", size))
            routine, other = drawer.random.choice(pool), drawer.random.choice(pool)
            for one, larger in zip(kinds_behind(routine, rule), kinds_behind(routine, more)):
                self.assertLessEqual(set(one), set(larger))
            fewer, greater = costs(routine, rule), costs(routine, more)
            for size in range(8):
                if fewer.worst(size) is not None:
                    self.assertLessEqual(fewer.worst(size), greater.worst(size))
                if None not in (fewer.by_words(size), greater.by_words(size)):
                    self.assertLessEqual(fewer.by_words(size), greater.by_words(size))
            self.assertLessEqual(fewer.slope, greater.slope)
            told, larger = alike(routine, other, rule), alike(routine, other, more)
            if not isinstance(told, Alike):
                self.assertLessEqual(larger.tree.size, told.tree.size)

    def test_least_trees(self):
        """A wrong answer, a lost word and a misuse stay wrong under a rule that lets more; a rule that is broken may not."""
        drawer = Drawer(146)
        pool = [one for name in HOUSES for one in known_house(name).routines.values()]
        for number in range(120):
            rule = drawn_rule(drawer)
            more = Rule(KINDS, KINDS)
            routine = drawer.random.choice(variants(drawer.random.choice(pool), drawer))
            wish = drawer.random.choice(WISHES)
            told, larger = verdict(routine, rule, wish), verdict(routine, more, wish)
            if isinstance(told, Wrong) and told.how != "rule":
                self.assertLessEqual(larger.tree.size, told.tree.size)
            same = Rule(rule.root[::-1], rule.others)
            self.assertEqual(size_of(verdict(routine, same, wish)), size_of(told))


if __name__ == "__main__":
    unittest.main()
