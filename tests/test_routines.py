"""Promise [9]: routines, but for their texts (test_texts.py)."""

import copy
import itertools
import unittest

from lettertrees import routines
from lettertrees.errors import BadStatement, TooMany
from lettertrees.routines import Routine
from lettertrees.rules import Rule
from tests.drawing import Drawer, LEAVES
from tests.support import TreesCase, deep_list, odd_values

BLOCKS = ("down", "turn", "up")
EVERYWHERE = [("mark",), ("unmark",)] + [("set", name, value) for name in "fxy" for value in (True, False)] + [
    ("return", answer) for answer in ("yes", "no", "node", "p")] + [
    ("if", ("true",), [("mark",)], []), ("if", ("x",), [("mark",)], [("unmark",), ("mark",)])]
SOMEWHERE = {("make",): ("down",), ("cut",): ("turn", "up"), ("keep",): ("down", "turn"), ("stop",): ("down", "up")}
SOMEWHERE.update({("return", answer, "cut"): ("turn",) for answer in ("yes", "no", "node", "p")})
WRONG_STATEMENTS = odd_values() + [
    (), [], "mark", "stop", ("mark", None), ("mark", True), ("mark", "mark"), ("Mark",), ("marks",), (True,), (0,),
    ((),), ([],), ({},), (("mark",),), [["mark"]], (None,), {"mark": 1}, {0: "mark"}, ("node",), ("yes",), ("p",),
    ("set",), ("set", "f"), ("set", "f", 0), ("set", "f", 1), ("set", "x", None), ("set", "y", "True"),
    ("set", "p", True), ("set", "mark", True), ("set", True, True), ("set", ["f"], True), ("set", {}, True),
    ("set", "f", True, True), ("set", "f", [True]), ("set", "f", (True,)), ("set", "", True),
    ("make", True), ("make", "make"), ("keep", "p"), ("stop", "stop"), ("cut", "cut"), ("unmark", 1),
    ("set", "z", True),
    ("return",), ("return", None), ("return", "Yes"), ("return", True), ("return", "f"), ("return", ["p"]),
    ("return", {}), ("return", ()), ("return", "yes", None), ("return", "yes", True), ("return", "yes", "yes"),
    ("return", "yes", ["cut"]), ("return", "yes", "cut", "cut"), ("return", "cut"), ("return", "maybe", "cut"),
    ("if",), ("if", ("true",)), ("if", ("true",), [("mark",)]), ("if", ("true",), [("mark",)], [], []),
    ("if", ("true",), [], []), ("if", ("true",), (), [("mark",)]), ("if", ("true",), None, []),
    ("if", ("true",), [("mark",)], None), ("if", ("true",), "mark", []), ("if", ("true",), [("mark",)], ""),
    ("if", ("true",), {}, []), ("if", ("true",), {("mark",): 1}, []), ("if", ("true",), [("mark",)], {}),
    ("if", "true", [("mark",)], []), ("if", None, [("mark",)], []), ("If", ("true",), [("mark",)], []),
    (["if"], ("true",), [("mark",)], []), ("while", ("true",), [("mark",)], []), deep_list(2000),
    ("mark", deep_list(2000)), (deep_list(2000),), ("return", deep_list(2000)), ("set", deep_list(2000), True),
]
WRONG_TESTS = odd_values() + [
    (), [], "mark", "f", "true", ("Mark",), ("marked",), ("ends", 1), ("mark", True), ("end",), ("z",), (True,), (0,),
    (None,), ([],), ({},), ((),), (("mark",),), {"mark": 1}, ("others",), ("others", True), ("others", False),
    ("others", 3), ("others", -1), ("others", None), ("others", "0"), ("others", [0]), ("others", {}),
    ("others", 1, 1), ("others", (1,)), ("not",), ("not", "mark"), ("not", None), ("not", ()),
    ("not", ("mark",), ("mark",)), ("not", ("others", True)), ("and",), ("and", ("mark",)), ("and", ("mark",), "f"),
    ("and", "f", ("mark",)), ("and", ("f",), ("f",), ("f",)), ("or",), ("or", ("f",)), ("or", ("f",), ("z",)),
    ("or", ("z",), ("f",)), ("or", ("f",), ("f",), ("f",)), (["not"], ("mark",)), ("xor", ("f",), ("f",)),
    ("true", ("f",)), ("here", "p"), ("p", "p"), ("next", 0), ("root", ""),
    ("not", deep_list(3000)), deep_list(3000), ("others", deep_list(3000)),
]


def with_block(name, block):
    """The three blocks, all of them empty but this one."""
    return [block if one == name else [] for one in BLOCKS]


def nested_test(name, depth):
    """A test with so many tests within one another, at the first or last of its parts."""
    test = ("mark",)
    for number in range(depth - 1):
        if name == "not":
            test = ("not", test)
        else:
            test = (name, test, ("f",)) if number % 2 else (name, ("f",), test)
    return test


def nested_if(depth, inner, second=False):
    """So many ifs around the statements of a list."""
    block = inner
    for _ in range(depth):
        block = [("if", ("x",), [("mark",)], block) if second else ("if", ("x",), block, [])]
    return block


def ones(many):
    return [("mark",)] * many


class RoutineTest(TreesCase):
    def assert_wrong(self, block, number, *blocks):
        self.assert_error(BadStatement, {"block": block, "number": number}, Routine, *blocks)

    def test_the_example_of_the_document(self):
        strike = Routine.read(
            "turn:\n    if not at end or not marked:\n        return no\n    unmark\n"
            "    if at root or not others == 0:\n"
            "        return yes\nup:\n    cut\n    if at root or marked or not others == 0:\n        return yes")
        self.assertEqual([strike.down, strike.turn[1], strike.up[0], strike.names()],
                         [(), ("unmark",), ("cut",), ()])
        self.assertEqual(strike.up[1][1], ("or", ("or", ("root",), ("mark",)), ("not", ("others", 0))))
        make = ("if", ("next",), [("stop",)], [("make",)])
        routine = Routine([("if", ("not", ("or", ("mark",), ("f",))), [("keep",)], [make])], [], [])
        self.assertEqual(routine.text(), "down:\n    if not (marked or f):\n        keep\n    elif next:\n"
                                         "        stop\n    else:\n        make")

    def test_each_statement_in_each_block(self):
        for name in BLOCKS:
            for statement in EVERYWHERE:
                routine = Routine(*with_block(name, [statement]))
                self.assertEqual(len(getattr(routine, name)), 1)
            for statement, let in SOMEWHERE.items():
                if name in let:
                    self.assertEqual(getattr(Routine(*with_block(name, [statement])), name), (statement,))
                else:
                    self.assert_wrong(name, 0, *with_block(name, [statement]))
                    self.assert_wrong(name, 0, *with_block(name, [list(statement)]))
                    self.assert_wrong(name, 2, *with_block(name, [("mark",), ("if", ("x",), [statement], [])]))
                    self.assert_wrong(name, 3, *with_block(name, [("mark",), ("if", ("x",), [("mark",)], [statement])]))

    def test_tuples_down_to_the_tests(self):
        listed = [["if", ["and", ["not", ["others", 1]], ["mark"]], [["mark"], ["if", ["x"], [["keep"]], []]],
                   [["set", "f", True]]], ["return", "p"]]
        wanted = (("if", ("and", ("not", ("others", 1)), ("mark",)), (("mark",), ("if", ("x",), (("keep",),), ())),
                   (("set", "f", True),)), ("return", "p"))
        mixed = [("if", ["and", ("not", ["others", 1]), ["mark"]], (["mark"], ("if", ["x"], [("keep",)], ())),
                  [["set", "f", True]]), ["return", "p"]]
        for block in (listed, tuple(listed), wanted, list(wanted), mixed):
            routine = Routine(block, block, [])
            for told in (routine.down, routine.turn):
                self.assertEqual(told, wanted)
                self.assert_tuples(told)
            self.assertEqual(routine.up, ())
            self.assertIs(type(routine.up), tuple)
        self.assertEqual(Routine((), [], ()), Routine([], (), []))

    def assert_tuples(self, value):
        if not isinstance(value, (str, bool, int)):
            self.assertIs(type(value), tuple)
            for part in value:
                self.assert_tuples(part)

    def test_lists_that_are_changed_afterwards(self):
        test = ["not", ["others", 1]]
        first, second = [["mark"]], [["keep"]]
        block = [["if", test, first, second], ["set", "f", True]]
        before = copy.deepcopy(block)
        routine = Routine(block, [], [])
        self.assertEqual(block, before)
        test[1][1] = 2
        test[0] = "and"
        first.append(["stop"])
        second[0][0] = "unmark"
        block[1][2] = False
        block.append(["make"])
        self.assertEqual(routine.down, (("if", ("not", ("others", 1)), (("mark",),), (("keep",),)), ("set", "f", True)))

    def test_wrong_statements(self):
        for name in BLOCKS:
            for wrong in WRONG_STATEMENTS:
                self.assert_wrong(name, 0, *with_block(name, [wrong]))
                self.assert_wrong(name, 1, *with_block(name, (("mark",), wrong, ("mark",))))
                self.assert_wrong(name, 1, *with_block(name, [("if", ("f",), [wrong], [wrong])]))
                self.assert_wrong(name, 2, *with_block(name, [("if", ("f",), [("mark",)], [wrong]), wrong]))

    def test_wrong_tests(self):
        for name in BLOCKS:
            for wrong in WRONG_TESTS:
                for test in (wrong, ("not", wrong), ["and", ("f",), wrong], ("or", wrong, ["f"])):
                    self.assert_wrong(name, 1, *with_block(name, [("mark",), ("if", test, [("mark",)], [])]))

    def test_each_test(self):
        for leaf in LEAVES:
            for test in (leaf, list(leaf), ("not", leaf), ("and", leaf, leaf), ["or", leaf, list(leaf)]):
                self.assertEqual(len(Routine([], [("if", test, [("mark",)], [])], []).turn), 1)
        for count in (0, 1, 2):
            self.assertEqual(Routine([("if", ["others", count], [("mark",)], [])], [], []).down[0][1],
                             ("others", count))

    def test_six_and_seven_tests_within_one_another(self):
        for name in ("not", "and", "or"):
            routine = Routine([("if", nested_test(name, 6), [("mark",)], [])], [], [])
            self.assertEqual(routine.down[0][1], nested_test(name, 6))
            for depth in (7, 8, 50):
                self.assert_wrong("down", 0, [("if", nested_test(name, depth), [("mark",)], [])], [], [])
        mixed = ("not", ("and", ("or", ("x",), ("not", ("and", ("y",), ("not", ("f",))))), ("p",)))
        self.assert_wrong("up", 0, [], [], [("if", mixed, [("mark",)], [])])
        self.assertEqual(Routine([], [], [("if", mixed[1], [("mark",)], [])]).up[0][1], mixed[1])

    def test_the_first_wrong_one_in_the_order_of_the_text(self):
        bad = ("bad",)
        inner = ("if", ("x",), [("mark",), ("if", ("y",), [("mark",)], [bad])], [bad])
        self.assert_wrong("turn", 4, [], [inner, bad], [])
        self.assert_wrong("turn", 5, [], [("mark",), inner], [bad])
        # An if that is wrong itself is ahead of what stands in it.
        self.assert_wrong("down", 0, [("if", ("z",), [bad], [bad])], [], [])
        self.assert_wrong("down", 1, [("mark",), ("if", ("x",), [bad], None)], [], [])
        self.assert_wrong("down", 1, [("mark",), ("if", ("x",), [], [bad])], [], [])
        # The first block is ahead of the second one, and both are ahead of what comes behind the if.
        self.assert_wrong("up", 1, [], [], [("if", ("x",), [bad], [bad]), bad])
        self.assert_wrong("up", 3, [], [], [("if", ("x",), ones(2), [bad]), bad])
        self.assert_wrong("up", 4, [], [], [("if", ("x",), ones(2), ones(1)), bad])
        self.assert_wrong("up", 6, [], [], nested_if(3, ones(2)) + [("mark",), bad])

    def test_every_statement_by_its_number(self):
        drawer = Drawer(5)
        for _ in range(60):
            blocks = [drawer.block(name, 8, 3) for name in BLOCKS]
            for at, name in enumerate(BLOCKS):
                for number in range(number_of(blocks[at])):
                    spoilt = list(blocks)
                    spoilt[at] = spoilt_block(blocks[at], number)[0]
                    self.assert_wrong(name, number, *spoilt)
                    spoilt = [[("bad",)] if later > at else one for later, one in enumerate(spoilt)]
                    self.assert_wrong(name, number, *spoilt)

    def test_down_ahead_of_turn_ahead_of_up(self):
        bad = [("mark",), ("bad",)]
        self.assert_wrong("down", 1, bad, bad, bad)
        self.assert_wrong("turn", 1, ones(3), bad, bad)
        self.assert_wrong("up", 1, ones(3), ones(2), bad)
        self.assert_wrong("down", 0, None, [("bad",)], None)
        self.assert_wrong("down", 1, bad, None, None)
        self.assert_wrong("turn", 0, ones(3), None, bad)
        self.assert_wrong("turn", 1, ones(3), bad, None)

    def test_blocks_that_are_no_lists(self):
        for wrong in odd_values():
            if not isinstance(wrong, (list, tuple)):
                self.assert_wrong("down", 0, wrong, [], [])
                self.assert_wrong("turn", 0, [], wrong, [])
                self.assert_wrong("up", 0, [], [], wrong)
        for wrong in ("", "mark", ("mark",), ["mark"], {"mark": 1}, 0, 1, ("if", ("true",), [("mark",)], [])):
            for name in BLOCKS:
                self.assert_wrong(name, 0, *with_block(name, wrong))

    def test_forty_and_forty_one_statements(self):
        for blocks in ([ones(40), [], []], [[], ones(40), []], [ones(13), ones(13), ones(14)],
                       [nested_if(39, ones(1)), [], []], [nested_if(20, ones(10)), nested_if(5, ones(3)), ones(2)],
                       [[], nested_if(19, [("unmark",)], True), ones(1)]):
            self.assertEqual(sum([number_of(block) for block in blocks]), 40)
            Routine(*blocks)
        fields = {"what": "statements", "many": 41, "most": 40}
        for blocks in ([ones(41), [], []], [ones(14), ones(13), ones(14)], [nested_if(40, ones(1)), [], []],
                       [[], [], nested_if(20, ones(1), True)], [ones(40), [], ones(1)]):
            self.assert_error(TooMany, fields, Routine, *blocks)
        self.assert_error(TooMany, {"what": "statements", "many": 120, "most": 40}, Routine, ones(40), ones(40),
                          ones(40))

    def test_a_wrong_one_is_told_ahead_of_too_many(self):
        self.assert_wrong("down", 41, ones(41) + [("bad",)], [], [])
        self.assert_wrong("up", 0, ones(41), ones(41), [("bad",)])
        self.assert_wrong("turn", 0, ones(60), None, [])
        self.assert_wrong("turn", 300, ones(60), ones(300) + [("make",)], [])

    def test_thousands_within_one_another(self):
        for depth in (1000, 5000):
            for second in (False, True):
                block = nested_if(depth, [("mark",)], second)
                many = 2 * depth + 1 if second else depth + 1
                self.assert_error(TooMany, {"what": "statements", "many": many, "most": 40}, Routine, [], block, [])
                block = nested_if(depth, [("bad",)], second)
                self.assert_wrong("turn", many - 1, [], block, [])
            for name in ("not", "and", "or"):
                self.assert_wrong("up", 0, [], [], [("if", nested_test(name, depth), [("mark",)], [])])
        listed = ["mark"]
        for _ in range(5000):
            listed = ["not", listed]
        self.assert_wrong("up", 2, [], [], ones(2) + [["if", listed, [["mark"]], []]])
        shared = ("mark",)
        for _ in range(200):
            # Each test stands twice in the next one: none may go over them all.
            shared = ("and", shared, shared)
        self.assert_wrong("down", 0, [("if", shared, [("mark",)], [])], [], [])

    def test_ten_thousand_statements(self):
        self.assert_error(TooMany, {"what": "statements", "many": 10000, "most": 40}, Routine, ones(10000), [], [])
        self.assert_wrong("down", 9999, ones(9999) + [None], [], [])

    def test_names(self):
        naming = {
            "p": [("keep",), ("return", "p"), ("if", ("p",), [("mark",)], []), ("if", ("here",), [("mark",)], []),
                  ("return", "yes", "cut"), ("return", "no", "cut"), ("return", "node", "cut"), ("return", "p", "cut")],
            "x": [("set", "x", True), ("set", "x", False), ("if", ("x",), [("mark",)], [])],
            "y": [("set", "y", True), ("set", "y", False), ("if", ("not", ("y",)), [("mark",)], [])],
            "": EVERYWHERE[:4] + [("return", "yes"), ("return", "no"), ("return", "node"), ("cut",),
                                  ("if", ("and", ("f",), ("or", ("next",), ("others", 1))), [("mark",)], [])],
        }
        for name, statements in naming.items():
            wanted = tuple(name)
            for statement in statements:
                for block in ([statement], [("if", ("f",), [statement], [])],
                              [("if", ("f",), [("mark",)], [("mark",), statement])]):
                    self.assertEqual(Routine([], block, []).names(), wanted, statement)
                    if statement not in list(SOMEWHERE):
                        self.assertEqual(Routine(block, [], []).names(), wanted)
                        self.assertEqual(Routine([], [], block).names(), wanted)
        for chosen in itertools.product([False, True], repeat=3):
            wanted = tuple(name for name, named in zip("pxy", chosen) if named)
            for sign in ("and", "or"):
                test = other = ("true",)
                for name in wanted:
                    test = (sign, ("not", (name,)), test)
                    other = (sign, other, ("here",) if name == "p" else (name,))
                self.assertEqual(Routine([("if", test, [("mark",)], [])], [], []).names(), wanted)
                self.assertEqual(Routine([], [], [("if", other, [("mark",)], [])]).names(), wanted)
        self.assertEqual(Routine([("set", "y", True)], [("set", "x", True)], [("return", "p")]).names(),
                         ("p", "x", "y"))
        self.assertEqual(Routine([], [], []).names(), ())
        self.assertIs(type(Routine([("keep",)], [], []).names()), tuple)
        self.assertEqual(Routine([("keep",), ("keep",)], [("keep",)], []).names(), ("p",))

    def test_equal_ones(self):
        blocks = [[("mark",)], [("if", ("x",), [("mark",)], [])], [("cut",)]]
        routine = Routine(*blocks)
        self.assertTrue(routine == Routine(*[[list(one) for one in block] for block in blocks]))
        self.assertFalse(routine != Routine(*blocks))
        for at in range(3):
            other = list(blocks)
            other[at] = [("unmark",)]
            self.assertFalse(routine == Routine(*other))
            other[at] = []
            self.assertTrue(routine != Routine(*other))
            other[at] = blocks[at] + [("mark",)]
            self.assertTrue(routine != Routine(*other))
        self.assertFalse(Routine([("mark",)], [], []) == Routine([], [("mark",)], []))
        self.assertFalse(Routine([("if", ("others", 1), [("mark",)], [])], [], [])
                         == Routine([("if", ("others", 0), [("mark",)], [])], [], []))
        for other in odd_values() + [routine.text(), (routine.down, routine.turn, routine.up), 0, Rule([], [])]:
            self.assertFalse(routine == other)
            self.assertTrue(routine != other)
            self.assertFalse(Routine([], [], []) == other)

    def test_the_same_block_for_all(self):
        block = [["mark"], ["return", "yes"]]
        routine = Routine(block, block, block)
        self.assertEqual((routine.down, routine.turn, routine.up), ((("mark",), ("return", "yes")),) * 3)

    def test_defined_in_its_file_and_class(self):
        self.assertEqual(Routine.__module__, "lettertrees.routines")
        for name in ("__init__", "__eq__", "names", "text", "read"):
            self.assertIn(name, vars(Routine))
        self.assertIsInstance(vars(Routine)["read"], classmethod)
        self.assertIs(routines.Routine, Routine)


def number_of(block):
    return sum(1 + (number_of(one[2]) + number_of(one[3]) if one[0] == "if" else 0) for one in block)


def spoilt_block(block, number):
    """The block with the statement of this number spoilt, and how many statements are left to go over."""
    out = []
    for one in block:
        if number == 0:
            one = ("bad",) + tuple(one)
            number = -1
        elif number > 0:
            number -= 1
            if one[0] == "if":
                first, number = spoilt_block(one[2], number)
                second, number = spoilt_block(one[3], number)
                one = ("if", one[1], first, second)
        out.append(one)
    return out, number


if __name__ == "__main__":
    unittest.main()
