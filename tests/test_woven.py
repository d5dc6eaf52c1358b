"""Promise [10]: two calls at a time."""

import itertools
import unittest

from lettertrees.errors import BadOrder, BadWord, TooMany
from lettertrees.plays import Woven, play, woven
from lettertrees.routines import Routine
from lettertrees.trees import Tree
from tests.drawing import Drawer
from tests.reference import reference_woven
from tests.support import TreesCase, first_places, odd_values
from tests.test_plays import PUT, STRIKE, STRIKE_KEPT

MARK = Routine([], [("mark",)], [])
# Goes down and up, and changes nothing.
WANDER = Routine([], [], [("if", ("not", ("true",)), [("stop",)], [])])


def cut_at(test):
    """A routine that on its way up cuts the next child off where the test holds, and ends there."""
    return Routine([], [], [("if", test, [("cut",), ("return", "yes")], [])])


def steps_of(result, name):
    return tuple(step[1:] for step in result.steps if step[0] == name)


class WovenTest(TreesCase):
    def told(self, tree, one, word, other, second, order):
        one, other = [Routine.read(routine) if isinstance(routine, str) else routine for routine in (one, other)]
        rows = tree.rows
        result = woven(tree, one, word, other, second, order)
        self.assertIs(type(result), Woven)
        self.assertTrue(type(result.steps) is tuple and all(type(step) is tuple for step in result.steps))
        self.assertTrue(type(result.order) is str and result.order.startswith(order))
        self.assertEqual(result.order, "".join(step[0] for step in result.steps))
        self.assertTrue(type(result.answers) is tuple and type(result.kinds) is tuple)
        self.assertEqual((result.steps, result.answers, result.kinds, sorted(result.tree.rows)),
                         reference_woven(tree, one, word, other, second, order))
        self.assertEqual(tree.rows, rows)
        return result

    def test_the_example_of_the_document(self):
        lost = self.told(Tree.of("ab", ["a"]), STRIKE, "a", PUT, "ab", "aabba")
        self.assertEqual([lost.order, lost.answers, lost.tree.words()], ["aabbab", ("yes", "yes"), ()])
        self.assertEqual(lost.steps, (("a", "", "down"), ("a", "a", "down"), ("b", "", "down"), ("b", "a", "down"),
                                      ("a", "", "up"), ("b", "ab", "down")))
        self.assertEqual((lost.kinds, lost.tree), ((None, None), Tree.of("ab", [])))

    def test_orders_that_are_empty_whole_or_broken_off(self):
        tree = Tree.of("ab", ["a"])
        self.assertEqual(self.told(tree, MARK, "a", PUT, "ab", "").order, "aabbb")
        for order in {"".join(signs) for signs in itertools.permutations("aabbb")}:
            for length in range(6):
                told = self.told(tree, MARK, "a", PUT, "ab", order[:length])
                left = 2 - order[:length].count("a")
                self.assertEqual(told.order, order[:length] + "a" * left + "b" * (5 - length - left))

    def test_one_behind_the_other_as_plain_plays(self):
        drawer = Drawer(21)
        for number in range(1500):
            tree = drawer.tree("abc", 8)
            one, other = drawer.routine(1 + number % 7), drawer.routine(1 + number % 5)
            word, second = drawer.word("abc", 3), drawer.word("abc", 3)
            first = play(tree, one, word)
            then = play(first.tree, other, second)
            for told in (self.told(tree, one, word, other, second, ""),
                         self.told(tree, one, word, other, second, "a" * len(first.steps))):
                self.assertEqual((steps_of(told, "a"), steps_of(told, "b")), (first.steps, then.steps))
                self.assertEqual(told.order, "a" * len(first.steps) + "b" * len(then.steps))
                self.assertEqual((told.answers, told.kinds, told.tree),
                                 ((first.answer, then.answer), (first.kind, then.kind), then.tree))
            first = play(tree, other, second)
            then = play(first.tree, one, word)
            told = self.told(tree, one, word, other, second, "b" * len(first.steps))
            self.assertEqual((steps_of(told, "b"), steps_of(told, "a")), (first.steps, then.steps))
            self.assertEqual((told.answers, told.kinds, told.tree),
                             ((then.answer, first.answer), (then.kind, first.kind), then.tree))

    def weavings(self, call, order=""):
        """The orders of all steps that go on from an order."""
        result = self.told(*call, order)
        if result.order == order:
            return [order]
        out = []
        for sign in "ab":
            try:
                out += self.weavings(call, order + sign)
            except BadOrder as error:
                self.assertEqual(error.number, len(order))
                self.assertIsNone(reference_woven(*call, order + sign))
        return out

    def test_each_weaving_of_two_short_calls(self):
        tree = Tree.of("ab", ["a", "ab", "b"])
        routines = [Routine.read(text) for text in (PUT, STRIKE, STRIKE_KEPT)] + [MARK, WANDER, cut_at(("root",))]
        for one, other in itertools.product(routines, repeat=2):
            for word, second in (("ab", "ab"), ("a", "ab"), ("ab", "ba"), ("aa", "a")):
                orders = self.weavings((tree, one, word, other, second))
                self.assertEqual(len(orders), len(set(orders)))
                self.assertGreater(len(orders), 5)

    def test_against_plain_ones(self):
        drawer = Drawer(22)
        kinds = {}
        for number in range(6000):
            one, other = drawer.routine(1 + number % 9, 3), drawer.routine(1 + number % 7, 3)
            tree, word, second = drawer.tree("ab", 7), drawer.word("ab", 4), drawer.word("ab", 4)
            order = ""
            for _ in range(12):
                longer = order + drawer.random.choice("ab")
                try:
                    woven(tree, one, word, other, second, longer)
                    order = longer
                except BadOrder as error:
                    self.assertEqual(error.number, len(order))
                    self.assertIsNone(reference_woven(tree, one, word, other, second, longer))
            told = self.told(tree, one, word, other, second, order)
            for kind in told.kinds:
                kinds[kind] = kinds.get(kind, 0) + 1
        self.assertTrue(set(kinds) == {None, "there", "none", "p"} and min(kinds.values()) > 50, kinds)

    def test_down_in_a_part_that_was_cut_off(self):
        # b stands at a when it is cut off; it goes on to ab, marks it, and comes up through both.
        tree = Tree.of("ab", ["ab"])
        told = self.told(tree, cut_at(("root",)), "a", Routine([], [("mark",)], [("mark",)]), "ab", "aaba")
        self.assertEqual(told.steps[3:], (("a", "", "up"), ("b", "a", "down"), ("b", "ab", "down"), ("b", "a", "up"),
                                          ("b", "", "up")))
        self.assertEqual((told.kinds, told.tree.rows), ((None, None), (("", True, False),)))

    def test_make_mark_and_cut_in_such_a_part(self):
        tree = Tree("ab", [("", False, False), ("a", False, False)])
        down = [("if", ("next",), [("set", "x", True)], [("make",)])]
        make = Routine(down, [("mark",), ("return", "node")], [])
        told = self.told(tree, cut_at(("root",)), "a", make, "aba", "aabab")
        self.assertEqual((told.answers, told.kinds, told.tree.size), (("yes", ("at", "aba")), (None, None), 1))
        # On the way up b cuts within the part, too; at the root it finds no child.
        at_root = ("if", ("next",), [("return", "yes")], [("return", "no")])
        both = Routine(down, [("mark",)], [("if", ("root",), [at_root], [("cut",)])])
        told = self.told(tree, cut_at(("root",)), "a", both, "aba", "aabba")
        self.assertEqual((told.answers, told.kinds, told.tree.size), (("yes", "no"), (None, None), 1))
        self.assertEqual(steps_of(told, "b"), (("", "down"), ("a", "down"), ("ab", "down"), ("aba", "down"),
                                               ("ab", "up"),
                                               ("a", "up"), ("", "up")))
        # A misuse there is one as anywhere.
        again = Routine([("if", ("root",), [("set", "x", True)], [("make",)])], [], [])
        told = self.told(Tree.of("ab", ["ab"]), cut_at(("root",)), "a", again, "ab", "aaba")
        self.assertEqual((told.order, told.kinds, told.tree.size), ("aabab", (None, "there"), 1))

    def test_up_along_the_places_that_it_came_down(self):
        tree = Tree.of("ab", ["ab", "b"])
        up = Routine([], [], [("if", ("root",), [("return", "node")], [("set", "f", True)])])
        for order in ("bbbaaa", "bbaaab", "aabbab"):
            told = self.told(tree, cut_at(("root",)), "a", up, "ab", order)
            self.assertEqual(steps_of(told, "b"), (("", "down"), ("a", "down"), ("ab", "down"), ("a", "up"),
                                                   ("", "up")))
            self.assertEqual((told.tree, told.answers), (Tree.of("ab", ["b"]), ("yes", ("at", ""))))
        # The child is looked for anew at each place: what a cut off at ab is not there for b.
        told = self.told(Tree.of("ab", ["aba"]), cut_at(("others", 0)), "aba", cut_at(("true",)), "aba", "bbbbaaaa")
        self.assertEqual((told.answers, told.kinds, told.order[-2:]), (("yes", None), (None, "none"), "ab"))

    def test_a_child_that_is_made_anew_is_another_place(self):
        tree = Tree("ab", [("", False, False), ("a", True, True), ("aa", True, False), ("ab", True, True)])
        cutter = Routine([("stop",)], [("cut",), ("return", "yes")], [])
        told = self.told(tree, PUT, "ab", cutter, "a", "ba")
        self.assertEqual((told.answers, told.tree), (("yes", "yes"), Tree.of("ab", ["ab"])))
        # a is kept when it is cut off; PUT has made another one, in which p is not.
        keeper = Routine([("if", ("mark",), [("keep",)], [])], [("if", ("mark",), [("keep",)], [])],
                         [("if", ("root",), [("cut",), ("return", "p")], [])])
        told = self.told(tree, keeper, "aab", PUT, "ab", "aaaaa")
        self.assertEqual((told.answers, told.tree), ((("at", "aa"), "yes"), Tree.of("ab", ["ab"])))
        # b is on its way in the part that was cut off; what a makes at its place hangs in the tree, and b's does not.
        first = self.told(tree, cutter, "a", MARK, "abb", "bba")
        self.assertEqual((first.order, first.tree.size), ("bbab", 1))
        told = self.told(first.tree, PUT, "a", MARK, "ab", "")
        self.assertEqual((told.tree.words(), told.tree.row("a")), (("a",), ("a", True, False)))

    def test_p_kept_in_a_part_that_was_cut_off_and_the_cut_at_it(self):
        tree = Tree.of("ab", ["abb"])
        keeper = Routine([("if", ("and", ("not", ("root",)), ("not", ("p",))), [("keep",)], [])],
                         [("return", "p", "cut")], [])
        # b keeps a, which a cuts off; the cut at p is done in the part that hangs in no tree.
        told = self.told(tree, cut_at(("root",)), "a", keeper, "abb", "aabba")
        self.assertEqual(told.steps[-3:], (("b", "ab", "down"), ("b", "abb", "down"), ("b", "a", "cut")))
        self.assertEqual((told.answers, told.kinds, told.tree.size), (("yes", ("at", "a")), (None, None), 1))
        # The child of p is gone before the cut: the misuse comes in that step.
        told = self.told(tree, cut_at(("mark",)), "abb", keeper, "abb", "bbbb" + "aaaaaa")
        self.assertEqual((told.answers, told.kinds), ((None, ("at", "a")), (None, None)))
        told = self.told(tree, cut_at(("not", ("root",))), "ab", keeper, "abb", "aaabbbba")
        self.assertEqual(told.steps[-2:], (("a", "a", "up"), ("b", "a", "cut")))
        self.assertEqual((told.answers, told.kinds, told.tree.size), (("yes", None), (None, "none"), 2))

    def test_the_going_is_done_in_the_step(self):
        # Where b has looked for the child ahead of the make it has turned there.
        told = self.told(Tree.of("ab", []), PUT, "a", MARK, "a", "ba")
        self.assertEqual((told.order, told.tree.words()), ("baa", ("", "a")))
        # Behind it b goes to the fresh place, and then stands there.
        told = self.told(Tree.of("ab", []), PUT, "a", MARK, "a", "ab")
        self.assertEqual((told.order, told.answers, told.tree.words()), ("abab", ("yes", None), ("a",)))
        told = self.told(Tree.of("ab", []), PUT, "a", MARK, "a", "abb")
        self.assertEqual((told.order, told.answers, told.tree.words()), ("abba", ("no", None), ("a",)))
        # a has gone to the place already when it is cut off.
        cutter = Routine([("stop",)], [("cut",)], [])
        told = self.told(Tree.of("ab", ["a"]), MARK, "ab", cutter, "a", "ab")
        self.assertEqual((told.order, told.steps[-1], told.tree.size), ("aba", ("a", "a", "down"), 1))
        told = self.told(Tree.of("ab", ["a"]), MARK, "ab", cutter, "a", "ba")
        self.assertEqual((told.order, told.steps[-1], told.tree.words()), ("ba", ("a", "", "down"), ("",)))

    def test_words_that_are_none(self):
        put, tree = Routine.read(PUT), Tree.of("ab", [])
        for wrong in odd_values() + ["a" * 201, "c", "aB", "a ", 0, 1, ["a"], b"a"]:
            self.assert_error(BadWord, {"number": 0}, woven, tree, put, wrong, put, "a", "")
            self.assert_error(BadWord, {"number": 1}, woven, tree, put, "a", put, wrong, "")
            self.assert_error(BadWord, {"number": 0}, woven, tree, put, wrong, put, wrong, "")
            self.assert_error(BadWord, {"number": 0}, woven, tree, put, wrong, put, "a", "c")
            self.assert_error(BadWord, {"number": 1}, woven, tree, put, "a", put, wrong, None)

    def test_values_that_are_no_order(self):
        put, tree = Routine.read(PUT), Tree.of("ab", [])
        for wrong in odd_values():
            if not isinstance(wrong, str):
                self.assert_error(BadOrder, {"number": 0}, woven, tree, put, "a", put, "b", wrong)
        for wrong in (("a", "b"), ["a"], {"a": 1}, b"ab", 0, 1, put):
            self.assert_error(BadOrder, {"number": 0}, woven, tree, put, "a", put, "b", wrong)

    def test_other_signs(self):
        put, tree = Routine.read(PUT), Tree.of("ab", [])
        for sign in ("c", "A", "B", " ", "\n", "0", "\u00e4", "-", "\u0430"):
            for order in ("", "a", "b", "ab", "aab", "abba"):
                self.assert_error(BadOrder, {"number": len(order)}, woven, tree, put, "a", put, "b", order + sign)
                self.assert_error(BadOrder, {"number": len(order)}, woven, tree, put, "a", put, "b",
                                  order + sign + "aaaa")

    def test_signs_of_a_call_that_has_ended(self):
        put, tree = Routine.read(PUT), Tree.of("ab", [])
        for order, number in (("aaa", 2), ("bbb", 2), ("aabbb", 4), ("ababa", 4), ("ababb", 4), ("aabaab", 3),
                              ("aaac", 2), ("aaca", 2), ("bbcb", 2), ("a" * 500, 2)):
            self.assert_error(BadOrder, {"number": number}, woven, tree, put, "a", put, "b", order)
        # A return with cut has a step more; one without p has none.
        for keeps, kind in (([("keep",)], "none"), ([], "p")):
            cut = Routine([], keeps + [("return", "yes", "cut")], [])
            steps = 2 if keeps else 1
            told = self.told(tree, cut, "a", put, "b", "a" * steps)
            self.assertEqual((told.order, told.kinds), ("a" * steps + "bb", (kind, None)))
            self.assert_error(BadOrder, {"number": steps}, woven, tree, cut, "a", put, "b", "a" * (steps + 1))
            self.assert_error(BadOrder, {"number": 2 + steps}, woven, tree, put, "a", cut, "b",
                              "aa" + "b" * steps + "b")

    def test_how_many_steps_hangs_on_the_other_call(self):
        # Where a has made the next place ahead of it b goes one step further.
        find = Routine([], [("return", "node")], [])
        put, tree = Routine.read(PUT), Tree.of("ab", [])
        for order, place in (("b", ""), ("abb", "a"), ("ab", "ab"), ("aab", "ab"), ("abab", "ab"), ("aabbb", "ab")):
            told = self.told(tree, put, "ab", find, "ab", order)
            self.assertEqual((told.answers, steps_of(told, "b")[-1]), (("yes", ("at", place)), (place, "down")))
        for order, number in (("bb", 1), ("abbb", 3), ("aabbbb", 5), ("abbab", 4)):
            self.assert_error(BadOrder, {"number": number}, woven, tree, put, "ab", find, "ab", order)

    def test_too_many_places_behind_both(self):
        put = Routine.read(PUT)
        tree = Tree("ab", [(place, False, False) for place in first_places("ab", 1998)])
        one, other = "b" + "a" * 9, "ab" + "a" * 8
        self.assertTrue(tree.has(one) and tree.has(other) and tree.below(one) == tree.below(other) == "")
        self.assertEqual(woven(tree, put, one + "a", put, other + "a", "").tree.size, 2000)
        self.assertEqual(woven(tree, put, one + "ab", put, one + "a", "abab").tree.size, 2000)
        fields = {"what": "places", "many": 2001, "most": 2000}
        self.assert_error(TooMany, fields, woven, tree, put, one + "ab", put, other + "a", "ab")
        # An order that is wrong is told ahead of it.
        self.assert_error(BadOrder, {"number": 1}, woven, tree, put, one + "ab", put, other + "a", "ac")
        self.assert_error(BadOrder, {"number": 0}, woven, tree, put, one + "ab", put, other + "a", None)
        self.assert_error(BadWord, {"number": 1}, woven, tree, put, one + "ab", put, "c", "c")
        # What was cut off does not count.
        cutter = Routine([("stop",)], [("cut",)], [])
        self.assertLess(woven(tree, put, one + "ab" * 90, cutter, "b", "").tree.size, 1100)
        self.assertLess(woven(tree, put, one + "ab" * 90, cutter, "b", "aaab").tree.size, 1100)

    def test_equal_calls_return_equal_results(self):
        drawer = Drawer(23)
        for _ in range(100):
            tree, one, other = drawer.tree("ab", 6), drawer.routine(), drawer.routine()
            both = [woven(tree, one, "ab", other, "a", "a") for _ in range(2)]
            self.assertEqual(*[(told.steps, told.order, told.answers, told.kinds, told.tree) for told in both])


if __name__ == "__main__":
    unittest.main()
