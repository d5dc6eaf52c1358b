"""Promise [10]: plays of one call; with [3] trees and [4] calls."""

import unittest

from lettertrees import plays
from lettertrees.errors import BadWord, TooMany
from lettertrees.plays import play
from lettertrees.routines import Routine
from lettertrees.trees import Tree
from tests.drawing import Drawer
from tests.reference import reference_play
from tests.support import TreesCase, first_places, odd_values

PUT = "down:\n    if not next:\n        make\nturn:\n    if marked:\n        return no\n    mark\n    return yes"
STRIKE = ("turn:\n    if not at end or not marked:\n        return no\n    unmark\n    if at root or not others == 0:\n"
          "        return yes\nup:\n    cut\n    if at root or marked or not others == 0:\n        return yes")
STRIKE_KEPT = ("down:\n    if at root or marked or not others == 0:\n        keep\nturn:\n"
               "    if not at end or not marked:\n        return no\n    unmark\n    if at root or not others == 0:\n"
               "        return yes\n    return yes, cut")
SET, CLEAR = [("set", "f", True)], [("set", "f", False)]


def sample():
    """Three children at the root, two at a, one at ab, none at aba."""
    return Tree("abc", [("", False, False), ("a", True, True), ("b", False, False), ("c", True, True),
                        ("ab", False, False),
                        ("ac", False, True), ("aba", True, False)])


def flags(tree, places):
    return [tree.row(place)[2] for place in places]


class PlayTest(TreesCase):
    def told(self, tree, routine, word):
        """(steps, answer, kind, tree); a routine may be given as its text or its blocks."""
        if isinstance(routine, str):
            routine = Routine.read(routine)
        elif not isinstance(routine, Routine):
            routine = Routine(*routine)
        trace = play(tree, routine, word)
        self.assertIs(type(trace.steps), tuple)
        self.assertTrue(all(type(step) is tuple for step in trace.steps))
        self.assertIs(type(trace.tree), Tree)
        self.assertEqual((trace.steps, trace.answer, trace.kind, sorted(trace.tree.rows)),
                         reference_play(tree, routine, word))
        return trace.steps, trace.answer, trace.kind, trace.tree

    def test_the_example_of_the_document(self):
        steps, answer, kind, tree = self.told(Tree.of("abc", ["ab"]), PUT, "ac")
        self.assertEqual([steps, answer, kind, tree.words()],
                         [(("", "down"), ("a", "down"), ("ac", "down")), "yes", None, ("ab", "ac")])

    def test_a_routine_that_does_nothing(self):
        tree = sample()
        for word, places in (("", [""]), ("a", ["", "a"]), ("aba", ["", "a", "ab", "aba"]),
                             ("abab", ["", "a", "ab", "aba"]),
                             ("bb", ["", "b"]), ("cab", ["", "c"])):
            self.assertEqual(self.told(tree, ([], [], []), word),
                             (tuple((place, "down") for place in places), None, None, tree))

    def test_each_test_on_the_way_down_and_where_it_turns(self):
        places = ["", "a", "ab", "aba"]
        no, yes = [False] * 4, [True] * 4
        held = {
            ("mark",): [False, True, False, True], ("f",): [False, True, False, False], ("x",): no, ("y",): no,
            ("root",): [True, False, False, False], ("ends",): [False, False, False, True],
            ("next",): [True, True, True, False], ("others", 0): [False, False, True, True],
            ("others", 1): [False, True, False, False], ("others", 2): [True, False, False, False],
            ("p",): no, ("here",): no, ("true",): yes,
        }
        for test, wanted in held.items():
            block = [("if", test, SET, CLEAR)]
            self.assertEqual(flags(self.told(sample(), (block, block, []), "aba")[3], places), wanted, test)
            block = [("if", ("not", test), SET, CLEAR)]
            self.assertEqual(flags(self.told(sample(), (block, block, []), "aba")[3], places),
                             [not one for one in wanted], test)
            for other, also in held.items():
                for name, both in (("and", [a and b for a, b in zip(wanted, also)]),
                                   ("or", [a or b for a, b in zip(wanted, also)])):
                    block = [("if", (name, test, other), SET, CLEAR)]
                    self.assertEqual(flags(self.told(sample(), (block, block, []), "aba")[3], places), both)

    def test_each_test_on_the_way_up(self):
        places = ["", "a", "ab"]
        held = {
            ("mark",): [False, True, False], ("f",): [False, True, False], ("root",): [True, False, False],
            ("ends",): [False] * 3, ("next",): [True] * 3, ("others", 0): [False, False, True],
            ("others", 1): [False, True, False], ("others", 2): [True, False, False], ("true",): [True] * 3,
            ("p",): [True] * 3, ("here",): [False, True, False], ("x",): [True] * 3, ("y",): [False] * 3,
        }
        down = [("if", ("mark",), [("keep",)], [("set", "x", True)])]
        for test, wanted in held.items():
            tree = self.told(sample(), (down, [], [("if", test, SET, CLEAR)]), "aba")[3]
            self.assertEqual(flags(tree, places), wanted, test)
            self.assertEqual(tree.row("aba"), ("aba", True, False))

    def test_others_at_the_end_of_the_word(self):
        for word, many in (("", 2), ("a", 2), ("ab", 1), ("aba", 0), ("b", 0), ("ac", 0)):
            for number in (0, 1, 2):
                turn = [("if", ("others", number), [("return", "yes")], [("return", "no")])]
                self.assertEqual(self.told(sample(), ([], turn, []), word)[1], "yes" if number == many else "no")
        # Where the way goes on the next child does not count; where it is not there all others do.
        for word, many in (("ab", 1), ("aa", 2), ("aba", 1)):
            down = [("if", ("and", ("not", ("root",)), ("others", many)), [("return", "yes")], [])]
            self.assertEqual(self.told(sample(), (down, [], []), word)[1], "yes")

    def test_marks_and_flags(self):
        for statement, row in ((("mark",), (True, None)), (("unmark",), (False, None)),
                               (("set", "f", True), (None, True)),
                               (("set", "f", False), (None, False))):
            for word in ("", "a", "ab", "b"):
                tree = self.told(sample(), ([], [statement], []), word)[3]
                for place, mark, flag in sample().rows:
                    if place == word:
                        mark, flag = [now if now is not None else then for now, then in zip(row, (mark, flag))]
                    self.assertEqual(tree.row(place), (place, mark, flag))
            everywhere = self.told(sample(), ([statement], [statement], []), "aba")[3]
            above = self.told(sample(), ([], [], [statement]), "aba")[3]
            for place, mark, flag in sample().rows:
                now = [now if now is not None else then for now, then in zip(row, (mark, flag))]
                self.assertEqual(everywhere.row(place)[1:], tuple(now) if "aba".startswith(place) else (mark, flag))
                self.assertEqual(above.row(place)[1:], tuple(now) if "ab".startswith(place) else (mark, flag))

    def test_a_child_that_is_made_and_then_gone_to(self):
        down = [("if", ("next",), [("mark",)], [("make",)])]
        steps, answer, kind, tree = self.told(Tree("ab", [("", False, True)]), (down, [("return", "node")], []), "aba")
        self.assertEqual(steps, (("", "down"), ("a", "down"), ("ab", "down"), ("aba", "down")))
        self.assertEqual((answer, kind), (("at", "aba"), None))
        self.assertEqual(tree.rows, (("", False, True), ("a", False, False), ("ab", False, False),
                                     ("aba", False, False)))
        # It is there at once, for the tests too, and it is none of the others.
        down = [("make",), ("if", ("and", ("next",), ("others", 2)), [("set", "f", True)], [])]
        steps, _, kind, tree = self.told(Tree.of("abc", ["a", "b"]), (down, [], []), "c")
        self.assertEqual((steps, kind, tree.row("")), ((("", "down"), ("c", "down")), None, ("", False, True)))

    def test_made_and_stopped(self):
        down = [("make",), ("stop",)]
        steps, answer, kind, tree = self.told(Tree.of("ab", []), (down, [("set", "f", True)], []), "ab")
        self.assertEqual((steps, answer, kind, tree.rows),
                         ((("", "down"),), None, None, (("", False, True), ("a", False, False))))
        steps, _, kind, tree = self.told(Tree.of("ab", []), (down, [("cut",), ("mark",)], [("unmark",)]), "ab")
        self.assertEqual((steps, kind, tree.words(), tree.size), ((("", "down"),), None, ("",), 1))
        down = [("make",), ("return", "no")]
        steps, answer, kind, tree = self.told(Tree.of("ab", []), (down, [("mark",)], [("mark",)]), "ab")
        self.assertEqual((steps, answer, tree.words(), tree.size), ((("", "down"),), "no", (), 2))

    def test_make_where_it_is_there(self):
        tree = sample()
        for down, word, steps in (([("make",)], "ab", [""]),
                                  ([("if", ("root",), [("mark",)], [("make",)])], "ab", ["", "a"]),
                                  ([("make",), ("make",)], "ba", [""])):
            told = self.told(tree, (down, [("return", "yes")], [("mark",)]), word)
            self.assertEqual(told[:3], (tuple((place, "down") for place in steps), None, "there"))
        told = self.told(Tree.of("ab", []), ([("set", "f", True), ("make",), ("make",), ("mark",)], [], []), "a")
        self.assertEqual(told[:3], ((("", "down"),), None, "there"))
        self.assertEqual(told[3].rows, (("", False, True), ("a", False, False)))

    def test_cut_where_it_is_not(self):
        for word, steps in (("", [""]), ("ac", ["", "a", "ac"]), ("cc", ["", "c"])):
            told = self.told(sample(), ([], [("set", "f", True), ("cut",), ("mark",)], [("mark",)]), word)
            self.assertEqual(told[:3], (tuple((place, "down") for place in steps), None, "none"))
            self.assertEqual(told[3].row(steps[-1])[2], True)
        told = self.told(sample(), ([], [], [("cut",), ("set", "f", True), ("cut",), ("mark",)]), "ab")
        self.assertEqual(told[:3], ((("", "down"), ("a", "down"), ("ab", "down"), ("a", "up")), None, "none"))
        self.assertEqual([row[0] for row in told[3].rows], ["", "a", "ac", "b", "c"])

    def test_cut_takes_all_below(self):
        told = self.told(sample(), ([("stop",)], [("cut",)], []), "aba")
        self.assertEqual([row[0] for row in told[3].rows], ["", "b", "c"])
        told = self.told(sample(), ([], [], [("if", ("root",), [("cut",)], [])]), "aba")
        self.assertEqual([row[0] for row in told[3].rows], ["", "b", "c"])
        told = self.told(sample(), ([], [], [("cut",)]), "aba")
        self.assertEqual([row[0] for row in told[3].rows], ["", "b", "c"])
        told = self.told(sample(), ([], [], [("cut",), ("stop",)]), "aba")
        self.assertEqual([row[0] for row in told[3].rows], ["", "a", "ab", "ac", "b", "c"])

    def test_stop_on_the_way_down(self):
        # It ends the block at once; turn is done right behind it, in the same step.
        for at, steps in ((("root",), [""]), (("mark",), ["", "a"]), (("others", 0), ["", "a", "ab"])):
            down = [("if", at, [("if", ("true",), [("stop",), ("mark",)], []), ("mark",)], []), ("set", "f", True)]
            told = self.told(sample(), (down, [("set", "f", False), ("return", "node")], []), "aba")
            self.assertEqual(told[:3], (tuple((place, "down") for place in steps), ("at", steps[-1]), None))
            self.assertEqual(flags(told[3], steps), [True] * (len(steps) - 1) + [False])
            self.assertEqual(told[3].words(), ("a", "aba", "c"))
        told = self.told(sample(), ([("stop",)], [], [("mark",)]), "aba")
        self.assertEqual(told, ((("", "down"),), None, None, sample()))

    def test_stop_on_the_way_up(self):
        for at, steps in ((("others", 0), ["ab"]), (("mark",), ["ab", "a"]), (("root",), ["ab", "a", ""])):
            up = [("if", at, [("stop",), ("mark",)], []), ("set", "f", True)]
            told = self.told(sample(), ([], [], up), "aba")
            down = tuple((place, "down") for place in ("", "a", "ab", "aba"))
            self.assertEqual(told[:3], (down + tuple((place, "up") for place in steps), None, None))
            self.assertEqual(told[3].row(steps[-1]), sample().row(steps[-1]))
            self.assertEqual(flags(told[3], steps[:-1]), [True] * (len(steps) - 1))

    def test_return_out_of_nested_ifs(self):
        inner = [("if", ("true",), [("if", ("not", ("true",)), [("mark",)], [("return", "yes"), ("mark",)]),
                                    ("mark",)], []),
                 ("mark",)]
        for blocks, steps in (((inner, [("mark",)], [("mark",)]), [("", "down")]),
                              (([], inner, [("mark",)]), [("", "down"), ("b", "down")]),
                              (([], [], inner), [("", "down"), ("b", "down"), ("", "up")])):
            self.assertEqual(self.told(sample(), blocks, "b"), (tuple(steps), "yes", None, sample()))

    def test_answers(self):
        for answer in ("yes", "no"):
            self.assertEqual(self.told(sample(), ([], [("return", answer)], []), "ab")[1], answer)
            self.assertEqual(self.told(sample(), ([("return", answer)], [], []), "ab")[:2], ((("", "down"),), answer))
        for word, place in (("", ""), ("ab", "ab"), ("abac", "aba"), ("bb", "b")):
            self.assertEqual(self.told(sample(), ([], [("return", "node")], []), word)[1], ("at", place))
            self.assertEqual(self.told(sample(), ([], [("return", "p")], []), word)[1], None)
            self.assertEqual(self.told(sample(), ([], [("keep",), ("return", "p")], []), word)[1], ("at", place))
        self.assertEqual(self.told(sample(), ([], [], [("return", "node")]), "aba")[1], ("at", "ab"))
        self.assertEqual(self.told(sample(), ([("if", ("root",), [("keep",)], [])], [], [("return", "p")]), "aba")[1],
                         ("at", ""))
        self.assertIs(type(self.told(sample(), ([], [("return", "node")], []), "a")[1]), tuple)

    def test_the_place_is_told_though_it_was_cut_off(self):
        down = [("if", ("mark",), [("keep",)], [])]
        told = self.told(sample(), (down, [], [("if", ("root",), [("cut",), ("return", "p")], [])]), "aba")
        self.assertEqual((told[1], told[3].has("a")), (("at", "a"), False))
        # p is still kept, and no place on the way is it any more but the one that was cut off.
        up = [("if", ("root",), [("cut",), ("if", ("and", ("p",), ("not", ("here",))), [("return", "yes")], [])], [])]
        self.assertEqual(self.told(sample(), (down, [], up), "aba")[1], "yes")

    def test_variables(self):
        down = [("if", ("x",), [("set", "y", True), ("set", "x", False)], [("set", "x", True)])]
        up = [("if", ("y",), [("set", "f", True), ("set", "y", False)], [("set", "f", False)]),
              ("if", ("x",), [("mark",)], [])]
        told = self.told(sample(), (down, [("set", "x", True)], up), "aba")
        # x is True behind "", False behind a, True behind ab; y True from a on.
        self.assertEqual(flags(told[3], ["ab", "a", ""]), [True, False, False])
        self.assertEqual(told[3].words(), ("", "a", "ab", "aba", "c"))
        for name in "xy":
            told = self.told(sample(), ([], [("if", (name,), [("return", "yes")], [("return", "no")])], []), "a")
            self.assertEqual(told[1], "no")
            block = [("set", name, True), ("if", (name,), [("return", "yes")], [("return", "no")])]
            self.assertEqual(self.told(sample(), ([], block, []), "a")[1], "yes")
            block = [("set", name, True), ("set", name, False)] + [("if", (name,), [("return", "yes")],
                                                                    [("return", "no")])]
            self.assertEqual(self.told(sample(), ([], block, []), "a")[1], "no")

    def test_p_is_kept_and_replaced(self):
        told = [("if", ("here",), [("return", "yes")], []), ("return", "p")]
        self.assertEqual(self.told(sample(), ([("keep",)], told, []), "aba")[1], ("at", "ab"))
        self.assertEqual(self.told(sample(), ([("keep",)], [("keep",)] + told, []), "aba")[1], "yes")
        # Where the call stays behind down p is the place itself.
        self.assertEqual(self.told(sample(), ([("keep",)], told, []), "abab")[1], "yes")
        self.assertEqual(self.told(sample(), ([("keep",), ("stop",)], told, []), "aba")[1], "yes")
        down = [("if", ("p",), [("stop",)], [("keep",)])]
        self.assertEqual(self.told(sample(), (down, [("return", "p")], []), "aba")[1], ("at", ""))
        up = [("if", ("here",), [("return", "node")], [])]
        self.assertEqual(self.told(sample(), ([("if", ("mark",), [("keep",)], [])], [], up), "aba")[1], ("at", "a"))

    def test_return_with_cut(self):
        down = [("if", ("mark",), [("keep",)], [])]
        for answer, wanted in (("yes", "yes"), ("no", "no"), ("node", ("at", "aba")), ("p", ("at", "a"))):
            told = self.told(sample(), (down, [("return", answer, "cut"), ("mark",)], [("mark",)]), "aba")
            self.assertEqual(told[:3], ((("", "down"), ("a", "down"), ("ab", "down"), ("aba", "down"), ("a", "cut")),
                                        wanted, None))
            self.assertEqual([row[0] for row in told[3].rows], ["", "a", "ac", "b", "c"])
            self.assertEqual(told[3].row("a"), ("a", True, True))

    def test_return_with_cut_at_the_place_itself(self):
        told = self.told(sample(), ([("if", ("mark",), [("keep",), ("stop",)], [])], [("return", "node", "cut")], []),
                         "aba")
        self.assertEqual(told[:3], ((("", "down"), ("a", "down"), ("a", "cut")), ("at", "a"), None))
        self.assertEqual([row[0] for row in told[3].rows], ["", "a", "ac", "b", "c"])
        # Made just now, and cut off in the step behind.
        told = self.told(Tree.of("ab", []), ([("make",), ("keep",), ("stop",)], [("return", "yes", "cut")], []), "ab")
        self.assertEqual(told, ((("", "down"), ("", "cut")), "yes", None, Tree.of("ab", [])))

    def test_return_with_cut_where_no_child_is(self):
        for word, place in (("", ""), ("ac", "ac"), ("cc", "c"), ("abaa", "aba")):
            for answer in ("yes", "no", "node", "p"):
                told = self.told(sample(), ([], [("keep",), ("return", answer, "cut")], []), word)
                self.assertEqual(told[0][-2:], ((place, "down"), (place, "cut")))
                self.assertEqual(told[1:], (None, "none", sample()))
        turn = [("cut",), ("return", "yes", "cut")]
        told = self.told(sample(), ([("keep",), ("stop",)], turn, []), "aba")
        self.assertEqual(told[:3], ((("", "down"), ("", "cut")), None, "none"))
        self.assertEqual([row[0] for row in told[3].rows], ["", "b", "c"])

    def test_return_with_cut_without_p(self):
        for answer in ("yes", "no", "node", "p"):
            told = self.told(sample(), ([], [("mark",), ("return", answer, "cut"), ("unmark",)], [("unmark",)]), "ab")
            self.assertEqual(told[:3], ((("", "down"), ("a", "down"), ("ab", "down")), None, "p"))
            self.assertEqual(told[3].words(), ("a", "ab", "aba", "c"))

    def test_up_is_left_out_where_it_is_empty(self):
        down = (("", "down"), ("a", "down"), ("ab", "down"))
        self.assertEqual(self.told(sample(), ([], [("mark",)], []), "ab")[0], down)
        self.assertEqual(self.told(sample(), ([], [("mark",)], [("mark",)]), "ab")[0], down + (("a", "up"), ("", "up")))
        self.assertEqual(self.told(sample(), ([], [("mark",)], [("mark",)]), "")[0], (("", "down"),))
        self.assertEqual(self.told(sample(), ([], [], [("mark",)]), "aa")[0], (("", "down"), ("a", "down"), ("", "up")))

    def test_nothing_below_the_root(self):
        empty = Tree.of("ab", [])
        self.assertEqual(self.told(empty, STRIKE, ""), ((("", "down"),), "no", None, empty))
        self.assertEqual(self.told(empty, STRIKE, "ab"), ((("", "down"),), "no", None, empty))
        self.assertEqual(self.told(empty, PUT, "")[3].words(), ("",))
        self.assertEqual(self.told(Tree.of("ab", [""]), STRIKE, ""), ((("", "down"),), "yes", None, empty))
        self.assertEqual(self.told(empty, ([("keep",)], [("return", "p")], [("cut",)]), "b")[1], ("at", ""))

    def test_known_routines(self):
        told = self.told(Tree.of("ab", ["ab", "abab"]), STRIKE, "abab")
        self.assertEqual(told[:3], ((("", "down"), ("a", "down"), ("ab", "down"), ("aba", "down"), ("abab", "down"),
                                     ("aba", "up"), ("ab", "up")), "yes", None))
        self.assertEqual(told[3], Tree.of("ab", ["ab"]))
        told = self.told(Tree.of("ab", ["ab", "abab"]), STRIKE_KEPT, "abab")
        self.assertEqual(told[:3], ((("", "down"), ("a", "down"), ("ab", "down"), ("aba", "down"), ("abab", "down"),
                                     ("ab", "cut")), "yes", None))
        self.assertEqual(told[3], Tree.of("ab", ["ab"]))

    def test_words_of_two_hundred_letters(self):
        word = "ab" * 100
        told = self.told(Tree.of("ab", [""]), PUT, word)
        self.assertEqual((len(told[0]), told[1], told[3].words(), told[3].size), (201, "yes", ("", word), 201))
        told = self.told(told[3], STRIKE, word)
        self.assertEqual((len(told[0]), told[1], told[3]), (401, "yes", Tree.of("ab", [""])))

    def test_values_that_are_no_words(self):
        routine = Routine.read(PUT)
        for word in odd_values() + ["a" * 201, "ab" * 101, "c", "aB", "a ", " a", 0, 1, ["a"], ("a", "b"), b"a",
                                    routine,
                                    "a\n", {"a": 1}, True]:
            self.assert_error(BadWord, {"number": 0}, play, Tree.of("ab", ["ab"]), routine, word)

    def test_two_thousand_places(self):
        put = Routine.read(PUT)
        tree = Tree("ab", [(place, False, False) for place in first_places("ab", 1999)])
        word = tree.rows[1][0] + "a" * 9
        self.assertEqual((tree.has(word), tree.below(word)), (True, ""))
        self.assertEqual(play(tree, put, word).tree.size, 1999)
        self.assertEqual(play(tree, put, word + "a").tree.size, 2000)
        self.assert_error(TooMany, {"what": "places", "many": 2001, "most": 2000}, play, tree, put, word + "ab")
        self.assert_error(TooMany, {"what": "places", "many": 2099, "most": 2000}, play, tree, put, word + "b" * 100)
        full = play(tree, put, word + "b").tree
        self.assertEqual(play(full, put, word).tree.size, 2000)
        self.assert_error(TooMany, {"what": "places", "many": 2001, "most": 2000}, play, full, put, word + "a")

    def test_more_places_that_are_taken_off_again(self):
        tree = Tree("ab", [(place, False, False) for place in first_places("ab", 2000)])
        word = "b" + "a" * 59
        self.assertTrue(tree.has(word[:10]))
        make = [("if", ("next",), [("keep",)], [("make",)])]
        told = play(tree, Routine(make, [("return", "yes", "cut")], []), word)
        self.assertEqual((len(told.steps), told.answer, told.kind, told.tree.size), (62, "yes", None, 1999))
        self.assertFalse(told.tree.has(word[:10]))
        make = [("if", ("next",), [("set", "f", True)], [("make",)])]
        up = [("cut",), ("if", ("f",), [("return", "no")], [])]
        told = play(tree, Routine(make, [], up), word)
        self.assertEqual((told.answer, told.kind, told.tree.size), ("no", None, 1999))
        self.assert_error(TooMany, {"what": "places", "many": 2050, "most": 2000}, play, tree, Routine(make, [], []),
                          word)

    def test_the_tree_of_before_is_not_changed(self):
        drawer = Drawer(3)
        for _ in range(200):
            tree = drawer.tree("abc", 8)
            rows, routine = tree.rows, drawer.routine(6)
            before = (routine.down, routine.turn, routine.up)
            play(tree, routine, drawer.word("abc", 4))
            self.assertEqual(tree.rows, rows)
            self.assertEqual(tree, Tree("abc", rows))
            self.assertEqual((routine.down, routine.turn, routine.up), before)

    def test_against_plain_plays(self):
        drawer = Drawer(7)
        kinds = {}
        for number in range(6000):
            routine = drawer.routine(1 + number % 9, 1 + number % 4)
            told = self.told(drawer.tree("abc", 9), routine, drawer.word("abc", 4))
            kinds[told[2]] = kinds.get(told[2], 0) + 1
        self.assertEqual(set(kinds), {None, "there", "none", "p"})
        self.assertTrue(all(many > 50 for many in kinds.values()), kinds)

    def test_equal_calls_return_equal_results(self):
        drawer = Drawer(9)
        for _ in range(200):
            tree, routine, word = drawer.tree("ab", 7), drawer.routine(6), drawer.word("ab", 4)
            one, other = play(tree, routine, word), play(Tree("ab", tree.rows[::-1]), Routine.read(routine.text()),
                                                         word)
            self.assertEqual((one.steps, one.answer, one.kind, one.tree),
                             (other.steps, other.answer, other.kind, other.tree))

    def test_the_letters_stay_in_their_order(self):
        trace = play(Tree.of("cab", ["b"]), Routine.read(PUT), "ca")
        self.assertEqual((trace.tree.letters, trace.tree.words()), ("cab", ("ca", "b")))

    def test_defined_in_their_file(self):
        for told in (play, plays.woven, plays.Trace, plays.Woven):
            self.assertEqual(told.__module__, "lettertrees.plays")


if __name__ == "__main__":
    unittest.main()
