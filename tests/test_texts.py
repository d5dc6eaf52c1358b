"""Promise [9]: routines as texts."""

import itertools
import unittest

from lettertrees.errors import BadText
from lettertrees.routines import Routine
from tests.drawing import Drawer, LEAVES
from tests.support import TreesCase, odd_values

LINES = [
    ("mark", ("mark",)), ("unmark", ("unmark",)), ("f = true", ("set", "f", True)), ("f = false", ("set", "f", False)),
    ("x = true", ("set", "x", True)), ("x = false", ("set", "x", False)), ("y = true", ("set", "y", True)),
    ("y = false", ("set", "y", False)), ("make", ("make",)), ("cut", ("cut",)), ("keep", ("keep",)),
    ("stop", ("stop",)), ("return yes", ("return", "yes")), ("return no", ("return", "no")),
    ("return node", ("return", "node")), ("return p", ("return", "p")), ("return yes, cut", ("return", "yes", "cut")),
    ("return no, cut", ("return", "no", "cut")), ("return node, cut", ("return", "node", "cut")),
    ("return p, cut", ("return", "p", "cut")),
]
LET = {"make": ("down",), "cut": ("turn", "up"), "keep": ("down", "turn"), "stop": ("down", "up")}
TESTS = [
    ("marked", ("mark",)), ("f", ("f",)), ("x", ("x",)), ("y", ("y",)), ("at root", ("root",)), ("at end", ("ends",)),
    ("next", ("next",)), ("others == 0", ("others", 0)), ("others == 1", ("others", 1)), ("others > 1", ("others", 2)),
    ("p", ("p",)), ("at p", ("here",)), ("true", ("true",)),
]
F, X, Y, P = ("f",), ("x",), ("y",), ("p",)
NESTED = [
    ("not f", ("not", F)), ("not not f", ("not", ("not", F))), ("f and x", ("and", F, X)), ("f or x", ("or", F, X)),
    ("not (f and x)", ("not", ("and", F, X))), ("not (f or x)", ("not", ("or", F, X))),
    ("f and x and y", ("and", ("and", F, X), Y)), ("f and (x and y)", ("and", F, ("and", X, Y))),
    ("(f or x) and y", ("and", ("or", F, X), Y)), ("f and (x or y)", ("and", F, ("or", X, Y))),
    ("not f and not x", ("and", ("not", F), ("not", X))), ("f or x or y", ("or", ("or", F, X), Y)),
    ("f or (x or y)", ("or", F, ("or", X, Y))), ("f and x or y", ("or", ("and", F, X), Y)),
    ("f or x and y", ("or", F, ("and", X, Y))), ("not f or not x", ("or", ("not", F), ("not", X))),
    ("(f or x) and (y or p)", ("and", ("or", F, X), ("or", Y, P))),
    ("f and x or y and p", ("or", ("and", F, X), ("and", Y, P))),
    ("f and x and (y and p)", ("and", ("and", F, X), ("and", Y, P))),
    ("f or x or (y or p)", ("or", ("or", F, X), ("or", Y, P))),
    ("not (f and x) and not (y or p)", ("and", ("not", ("and", F, X)), ("not", ("or", Y, P)))),
    ("((f or x) and y or p) and x", ("and", ("or", ("and", ("or", F, X), Y), P), X)),
    ("not not (f or not x)", ("not", ("not", ("or", F, ("not", X))))),
    ("others == 0 or not at end and others > 1", ("or", ("others", 0), ("and", ("not", ("ends",)), ("others", 2)))),
]
BAD_TESTS = [
    "", " ", "mark", "marked ", " marked", "Marked", "at  root", "at root ", "root", "end", "at", "at marked", "others",
    "others == 2", "others == 3", "others==0", "others  == 0", "others == 00", "others > 0", "others >1", "others < 1",
    "others != 0", "other == 0", "(f)", "((f))", "(not f)", "not(f)", "not (f)", "not  f", "not", "not ", "notf",
    "nof f",
    "not (not f)", "f and", "and f", "f and ", " and f", "f  and x", "f and  x", "f andx", "fand x", "f & x", "f, x",
    "(f) and x", "f and (x)", "(f and x)", "((f or x)) and y", "(f and x) and y", "(f and x) or y", "f or (x and y)",
    "(f or x) or y", "f and (not x)", "(not f) and x", "not ((f or x))", "not (f or x", "not f or x)", "(f or x and y",
    "f or x) and y", "(f or x)and y", "( f or x) and y", "(f or x ) and y", "f and and x", "f or or x", "f or and x",
    "f not x", "f x", "()", "(", ")", ")(", "not ()", "true true", "true\t", "f\tand x", "f and\u00a0x", "True",
    "false",
    "not not", "f and not", "f AND x", "here", "at p and", "p p", "f:", "f: x", "f if x", "set f", "x = true", "1", "0",
]
HEADS = ["down:", "turn:", "up:"]


def in_block(name, *lines):
    return "\n".join([name + ":"] + list(lines))


def read_with(test):
    return Routine.read("down:\n    if " + test + ":\n        mark")


def texts_by_grammar(most):
    """All texts of a few lines, each with the number of its first else that holds one if alone (or None)."""
    for lines, bad in parts_by_grammar(most):
        yield tuple(lines), bad


def parts_by_grammar(most):
    for line, _ in (("down:", 0), ("up:", 1)):
        for block, bad, _ in blocks_by_grammar(most - 1, 1):
            yield [line] + block, None if bad is None else bad + 1
            if line == "down:" and len(block) + 3 <= most:
                for other, worse, _ in blocks_by_grammar(most - 2 - len(block), 1):
                    told = bad + 1 if bad is not None else None if worse is None else worse + 2 + len(block)
                    yield [line] + block + ["up:"] + other, told


def blocks_by_grammar(most, depth):
    """(lines, first bad else, whether it is one if alone) of all blocks that are not empty."""
    for first, bad, is_if in statements_by_grammar(most, depth):
        yield first, bad, is_if
        for rest, worse, _ in blocks_by_grammar(most - len(first), depth) if most > len(first) else ():
            yield first + rest, told_bad(bad, worse, len(first)), False


def told_bad(bad, worse, length):
    return bad if bad is not None else None if worse is None else worse + length


def statements_by_grammar(most, depth):
    if most >= 1 and depth <= 3:
        yield ["    " * depth + "mark"], None, False
    if most >= 2 and depth <= 2:
        yield from ifs_by_grammar(most, depth, "if x:")


def ifs_by_grammar(most, depth, head):
    for first, bad, _ in blocks_by_grammar(most - 1, depth + 1):
        start = ["    " * depth + head] + first
        bad = None if bad is None else bad + 1
        yield start, bad, True
        left = most - len(start)
        if left >= 2:
            for second, worse, alone in blocks_by_grammar(left - 1, depth + 1):
                worse = 0 if alone else None if worse is None else worse + 1
                yield start + ["    " * depth + "else:"] + second, told_bad(bad, worse, len(start)), True
            for second, worse, _ in ifs_by_grammar(left, depth, "elif y:"):
                yield start + second, told_bad(bad, worse, len(start)), True


class TextTest(TreesCase):
    def assert_bad(self, line, text):
        self.assert_error(BadText, {"line": line}, Routine.read, text)

    def test_the_text_of_each_statement(self):
        for text, statement in LINES:
            for name, blocks in (("down", 0), ("turn", 1), ("up", 2)):
                cuts = statement[0] == "return" and len(statement) == 3
                let = name == "turn" if cuts else name in LET.get(statement[0], ("down", "turn", "up"))
                if let:
                    routine = Routine(*[[statement] if at == blocks else [] for at in range(3)])
                    self.assertEqual(routine.text(), name + ":\n    " + text)
                    self.assertEqual(Routine.read(routine.text()), routine)
                else:
                    self.assert_bad(1, name + ":\n    " + text)
                    self.assert_bad(3, name + ":\n    mark\n    if x:\n        " + text)

    def test_the_text_of_each_test(self):
        for text, test in TESTS + NESTED:
            cases = [(text, test)]
            if test[0] not in ("and", "or"):
                cases.append(("not " + text, ("not", test)))
            for wanted, one in cases:
                routine = Routine([("if", one, [("mark",)], [])], [], [])
                self.assertEqual(routine.text(), "down:\n    if " + wanted + ":\n        mark")
                self.assertEqual(read_with(wanted), routine)

    def test_brackets_for_each_pair_on_each_side(self):
        kinds = {"leaf": (F, "f"), "not": (("not", X), "not x"), "and": (("and", X, Y), "x and y"),
                 "or": (("or", X, Y), "x or y")}
        bracketed = {("not", 1): ("and", "or"), ("and", 1): ("or",), ("and", 2): ("and", "or"), ("or", 1): (),
                     ("or", 2): ("or",)}
        for name, (inner, text) in kinds.items():
            for (outer, side), in_brackets in bracketed.items():
                told = f"({text})" if name in in_brackets else text
                if outer == "not":
                    test, wanted = ("not", inner), "not " + told
                elif side == 1:
                    test, wanted = (outer, inner, P), f"{told} {outer} p"
                else:
                    test, wanted = (outer, P, inner), f"p {outer} {told}"
                routine = Routine([], [], [("if", test, [("mark",)], [])])
                self.assertEqual(routine.text(), f"up:\n    if {wanted}:\n        mark")
                self.assertEqual(Routine.read(routine.text()), routine)
                if told == text and outer != "not" or name in ("leaf", "not"):
                    self.assert_bad(1, f"up:\n    if {wanted.replace(text, '(' + text + ')')}:\n        mark")

    def test_else_and_elif(self):
        x, y, p = X, Y, P
        mark, stop = ("mark",), ("stop",)
        cases = [
            ([("if", x, [mark], [stop])], ["if x:", "    mark", "else:", "    stop"]),
            ([("if", x, [mark], [("if", y, [stop], [])])], ["if x:", "    mark", "elif y:", "    stop"]),
            ([("if", x, [mark], [("if", y, [stop], [mark])])],
             ["if x:", "    mark", "elif y:", "    stop", "else:", "    mark"]),
            ([("if", x, [mark], [("if", y, [stop], [("if", p, [mark], [stop])]), ])],
             ["if x:", "    mark", "elif y:", "    stop", "elif p:", "    mark", "else:", "    stop"]),
            ([("if", x, [mark], [("if", y, [stop], []), stop])],
             ["if x:", "    mark", "else:", "    if y:", "        stop", "    stop"]),
            ([("if", x, [mark], [stop, ("if", y, [stop], [])])],
             ["if x:", "    mark", "else:", "    stop", "    if y:", "        stop"]),
            ([("if", x, [mark], [("if", y, [stop], [("if", p, [mark], []), stop])])],
             ["if x:", "    mark", "elif y:", "    stop", "else:", "    if p:", "        mark", "    stop"]),
            ([("if", x, [("if", y, [mark], [stop])], [mark])],
             ["if x:", "    if y:", "        mark", "    else:", "        stop", "else:", "    mark"]),
            ([("if", x, [("if", y, [mark], [("if", p, [stop], [])])], [("if", p, [mark], [])]), mark],
             ["if x:", "    if y:", "        mark", "    elif p:", "        stop", "elif p:", "    mark", "mark"]),
            ([("if", x, [mark], []), ("if", y, [mark], [stop])],
             ["if x:", "    mark", "if y:", "    mark", "else:", "    stop"]),
        ]
        for block, lines in cases:
            routine = Routine(block, [], [])
            self.assertEqual(routine.text().split("\n"), ["down:"] + ["    " + line for line in lines])
            self.assertEqual(Routine.read(routine.text()), routine)
            self.assertEqual(Routine([], [], block).text().split("\n"), ["up:"] + ["    " + line for line in lines])

    def test_blocks_that_are_empty(self):
        self.assertEqual(Routine([], [], []).text(), "")
        self.assertEqual(Routine.read(""), Routine([], [], []))
        for chosen in itertools.product([0, 1], repeat=3):
            blocks = [[("mark",)] if one else [] for one in chosen]
            text = "\n".join(head + "\n    mark" for head, one in zip(HEADS, chosen) if one)
            self.assertEqual(Routine(*blocks).text(), text)
            self.assertEqual(Routine.read(text), Routine(*blocks))
        self.assertIs(type(Routine.read("up:\n    cut").up), tuple)

    def test_over_many_drawn_routines(self):
        drawer = Drawer(11)
        for number in range(1500):
            routine = drawer.routine(1 + number % 13, 1 + number % 5)
            text = routine.text()
            again = Routine.read(text)
            self.assertTrue(again == routine, text)
            self.assertEqual((again.down, again.turn, again.up, again.text()),
                             (routine.down, routine.turn, routine.up, text))

    def test_all_small_tests_have_texts_of_their_own(self):
        leaves = LEAVES[:4]
        tests = list(leaves)
        for _ in range(2):
            some = tests[:14]
            tests = leaves + [("not", one) for one in some] + [
                (name, one, other) for name in ("and", "or") for one in some for other in some]
        known = {}
        for test in tests:
            text = Routine([("if", test, [("mark",)], [])], [], []).text()
            self.assertEqual(Routine.read(text).down[0][1], test)
            self.assertEqual(known.setdefault(text, test), test)

    def test_values_that_are_no_string(self):
        for wrong in odd_values():
            if not isinstance(wrong, str):
                self.assert_bad(0, wrong)
        for wrong in (b"", b"down:\n    mark", 0, 1, ["down:", "    mark"], ("",), Routine([], [], [])):
            self.assert_bad(0, wrong)

    def test_heads(self):
        for text, line in (
                ("down:\n    mark\ndown:\n    mark", 2), ("turn:\n    mark\nturn:\n    mark", 2),
                ("turn:\n    mark\ndown:\n    mark", 2), ("up:\n    mark\nturn:\n    mark", 2),
                ("up:\n    mark\ndown:\n    mark", 2), ("down:\n    mark\nup:\n    mark\nturn:\n    mark", 4),
                ("down:\n    mark\n    turn:\n        mark", 2), ("    down:\n        mark", 0),
                (" down:\n    mark", 0),
                ("down:\n    if x:\n        turn:", 2), ("down:\n    if x:\n    turn:\n        mark", 2),
                ("down: \n    mark", 0), ("Down:\n    mark", 0), ("down\n    mark", 0), ("down::\n    mark", 0),
                ("\tdown:\n    mark", 0), ("down:    mark", 0), ("down :\n    mark", 0), ("left:\n    mark", 0)):
            self.assert_bad(line, text)

    def test_ahead_of_the_first_head(self):
        for line in ("mark", "    mark", "if x:", "    if x:", "else:", "    else:", "elif x:", " ", "    ", "\t", "x",
                     "#"):
            self.assert_bad(0, line)
            self.assert_bad(0, line + "\ndown:\n    mark")

    def test_empty_lines(self):
        for text, line in (("\n", 0), ("\n\n", 0), ("\ndown:\n    mark", 0), ("down:\n\n    mark", 1),
                           ("down:\n    mark\n", 2), ("down:\n    mark\n\n", 2), ("down:\n    mark\n\nup:\n    cut", 2),
                           ("down:\n    mark\n    ", 2), ("down:\n    mark\n        ", 2), ("down:\n", 1),
                           ("down:\n    if x:\n        mark\n    \n    mark", 3), ("down:\n    mark\r\n    mark", 1),
                           ("down:\n    mark\n ", 2)):
            self.assert_bad(line, text)

    def test_blanks_and_depths(self):
        for blanks in list(range(0, 4)) + [5, 6, 7, 8, 12, 400]:
            self.assert_bad(1, "down:\n" + " " * blanks + "mark")
        for blanks in list(range(0, 8)) + [9, 10, 11, 12, 16]:
            self.assert_bad(2, "down:\n    if x:\n" + " " * blanks + "mark")
            self.assert_bad(4, "down:\n    if x:\n        mark\n    else:\n" + " " * blanks + "mark")
            self.assert_bad(4, "down:\n    if x:\n        mark\n    elif y:\n" + " " * blanks + "mark")
        for blanks in (0, 1, 2, 3, 5, 6, 7, 9, 10, 11, 12, 13):
            self.assert_bad(3, "down:\n    if x:\n        mark\n" + " " * blanks + "mark")
        for text in ("down:\n    mark\n        mark", "down:\n    mark\n    mark\n        if x:",
                     "down:\n    mark\n        else:"):
            self.assert_bad(text.count("\n"), text)
        for line in ("\tmark", "    \tmark", "    mark ", "    mark\t", "    mark;", "   \u00a0mark", "    mark mark"):
            self.assert_bad(1, "down:\n" + line)

    def test_blocks_that_lack(self):
        for text, line in (
                ("down:", 1), ("turn:", 1), ("up:", 1), ("down:\nturn:\n    mark", 1), ("down:\n    mark\nup:", 3),
                ("down:\n    if x:", 2), ("down:\n    if x:\n    mark", 2),
                ("down:\n    if x:\n    else:\n        mark", 2),
                ("down:\n    if x:\n    elif y:\n        mark", 2), ("down:\n    if x:\nup:\n    mark", 2),
                ("down:\n    if x:\n        mark\n    else:", 4),
                ("down:\n    if x:\n        mark\n    else:\n    mark", 4),
                ("down:\n    if x:\n        mark\n    elif y:", 4), ("down:\n    if x:\n        if y:\n    mark", 3),
                ("down:\n    if x:\n        if y:\n        mark", 3), ("down:\n    if x:\n        if y:", 3),
                ("down:\n    if x:\n        mark\n    elif y:\n    else:\n        mark", 4)):
            self.assert_bad(line, text)

    def test_else_and_elif_without_an_if(self):
        for word in ("else:", "elif y:"):
            for text, line in (
                    ("down:\n    " + word + "\n        mark", 1),
                    ("down:\n    mark\n    " + word + "\n        mark", 2),
                    ("down:\n    if x:\n        mark\n    mark\n    " + word + "\n        mark", 4),
                    ("down:\n    if x:\n        mark\n    else:\n        mark\n    " + word + "\n        mark", 5),
                    ("down:\n    if x:\n        mark\n        " + word + "\n            mark", 3),
                    ("down:\n    if x:\n        mark\n    else:\n        " + word + "\n            mark", 4),
                    ("down:\n    if x:\n        if y:\n            mark\n        mark\n        " + word, 5),
                    ("down:\n    if x:\n        mark\nup:\n    " + word + "\n        mark", 4),
                    ("down:\n    if x:\n        mark\n" + word + "\n    mark", 3),
                    ("down:\n    if x:\n        mark\n    if y:\n        mark\n    else:\n        mark\n    " + word,
                     7)):
                self.assert_bad(line, text)

    def test_lines_that_are_none(self):
        for line in ("Mark", "marked", "make it", "f=true", "f = True", "f = 1", "p = true", "x = y", "mark:", "return",
                     "return  yes", "return Yes", "return none", "return p,cut", "return p,  cut", "return p , cut",
                     "return yes cut", "return cut", "if", "if x", "if:", "if :", "if  x:", "if x :", "if x: mark",
                     "if x::", "if x.", "elif x.", "elif", "elif:", "elif x", "elif  x:", "else", "else :", "else: ",
                     "else x:", "else if x:", "elseif x:", "pass", "# mark", "mark # x", "while x:", "set f",
                     "keep p", "stop.", "IF x:", "ifx:"):
            self.assert_bad(1, "turn:\n    " + line)
            self.assert_bad(3, "turn:\n    if x:\n        mark\n    " + line)

    def test_statements_that_are_not_let(self):
        for name, lines in (("down", ["cut", "return yes, cut", "return p, cut"]), ("turn", ["make", "stop"]),
                            ("up", ["make", "keep", "return no, cut", "return node, cut"])):
            for line in lines:
                self.assert_bad(1, in_block(name, "    " + line))
                self.assert_bad(4, in_block(name, "    if x:", "        mark", "    else:", "        " + line))

    def test_tests_that_are_not_written_just_so(self):
        for test in BAD_TESTS:
            self.assert_bad(1, "down:\n    if " + test + ":\n        mark")
            self.assert_bad(3, "down:\n    if x:\n        mark\n    elif " + test + ":\n        mark")
            # It is told ahead of what is wrong further down.
            self.assert_bad(1, "down:\n    if " + test + ":")
            self.assert_bad(1, "down:\n    if " + test + ":\n        mark\n\n")
        for text, _ in NESTED:
            for bad in (f"({text})", text + ")", "(" + text, text + " ", " " + text, text.replace(" ", "  ", 1),
                        text.replace("f", "(f)", 1) + ("" if "f" in text else " "), f"not not ({text}))",
                        f"({text}) and ((x))"):
                self.assert_bad(1, "down:\n    if " + bad + ":\n        mark")
                self.assert_bad(1, "down:\n    if " + bad + ":")

    def test_six_and_seven_tests(self):
        for six in ("not not not not not f", "f and f and f and f and f and f", "f or f or f or f or f or x",
                    "not (f or not (f or not x))", "f and (f and (f and (f and (f and x))))",
                    "not (f and not (f and not x))", "not (f or f and (f or not x))",
                    "not (f or (f or (f or (f or x))))"):
            self.assertEqual(read_with(six).text(), "down:\n    if " + six + ":\n        mark")
        self.assertEqual(read_with("not not not not not f").down[0][1],
                         ("not", ("not", ("not", ("not", ("not", F))))))
        for seven in ("not not not not not not f", "f and f and f and f and f and f and f",
                      "f or f or f or f or f or f or f", "not (f or not (f or not not x))",
                      "f and (f and (f and (f and (f and (f and x)))))", "f or (f or (f or (f or (f or (f or x)))))"):
            self.assert_bad(1, "down:\n    if " + seven + ":\n        mark")

    def test_the_forty_first_statement(self):
        marks = ["    mark"] * 40
        self.assertEqual(Routine.read(in_block("down", *marks)).down, (("mark",),) * 40)
        self.assert_bad(41, in_block("down", *marks, "    mark"))
        self.assert_bad(41, in_block("down", *marks, "    mark", "    mark"))
        self.assert_bad(42, in_block("down", *marks) + "\nup:\n    mark")
        self.assert_bad(41, in_block("down", *marks, "    if x:"))
        self.assert_bad(41, in_block("down", *marks, "    if x:", "        mark"))
        chain = ["    if x:", "        mark"] + ["    elif y:", "        mark"] * 19
        self.assertEqual(Routine.read(in_block("down", *chain)).text(), in_block("down", *chain))
        self.assert_bad(41, in_block("down", *chain, "    elif y:", "        mark"))
        self.assert_bad(41, in_block("down", *chain, "    mark"))
        # An else is none of the statements.
        self.assert_bad(42, in_block("down", *chain, "    else:", "        mark"))
        chain = ["    if x:", "        mark"] + ["    elif y:", "        mark"] * 18 + ["    else:", "        mark",
                                                                                        "    mark"]
        self.assertEqual(Routine.read(in_block("turn", *chain)).text(), in_block("turn", *chain))
        self.assert_bad(42, in_block("turn", *chain, "    mark"))
        many = ["    " * (depth + 1) + "if x:" for depth in range(39)] + ["    " * 40 + "mark"]
        self.assertEqual(Routine.read(in_block("up", *many)).text(), in_block("up", *many))

    def test_an_else_that_holds_one_if_alone(self):
        text = "down:\n    if x:\n        mark\n    else:\n        if y:\n            mark"
        self.assert_bad(3, text)
        self.assert_bad(3, text + "\n        else:\n            mark")
        self.assert_bad(3, text + "\nup:\n    mark")
        self.assertEqual(len(Routine.read(text + "\n        mark").down[0][3]), 2)
        self.assertEqual(len(Routine.read(text.replace("else:\n", "else:\n        mark\n")).down[0][3]), 2)
        inner = ("down:\n    if x:\n        if y:\n            mark\n        else:\n            if x:\n"
                 "                mark\n")
        self.assert_bad(4, inner + "    else:\n        if y:\n            mark")
        self.assert_bad(4, inner + "    mark")
        # Whatever else is wrong is told ahead of it.
        self.assert_bad(6, text + "\n            cut")
        self.assert_bad(6, text + "\n    else:")
        self.assert_bad(7, text + "\n        else:")
        self.assert_bad(7, text + "\n            mark\n     mark")

    def test_thousands(self):
        for test in ("(" * 5000 + "f" + ")" * 5000, "(" * 5000, ")" * 5000, "not " * 5000 + "f", "not (" * 5000 + "f",
                     "f and " * 5000 + "f", "f or " * 5000 + "f", "f and (" * 5000 + "f" + ")" * 5000,
                     "not (f or " * 3000 + "f" + ")" * 3000, "() and " * 3000, "(f or x) and " * 4000 + "f",
                     "x" * 100000):
            self.assert_bad(1, "down:\n    if " + test + ":\n        mark")
        deep = ["    " * (depth + 1) + "if x:" for depth in range(3000)]
        self.assert_bad(41, in_block("down", *deep))
        self.assert_bad(2, "down:\n    if x:\n" + " " * 400000 + "mark")
        self.assert_bad(41, in_block("down", *["    mark"] * 20000))
        self.assert_bad(0, "\n" * 100000)
        self.assert_bad(1, "down:\n" + "\n" * 100000)

    def test_all_texts_of_a_few_lines(self):
        """Each row of lines: the first one that no text goes on from, or that text() would write otherwise."""
        most = 7
        texts = {lines: bad for lines, bad in texts_by_grammar(most + 1)}
        heads = {lines[:length] for lines in texts for length in range(1, most + 1)}
        vocabulary = ["up:", "    mark", "        mark", "            mark", "    if x:", "        if x:", "    else:",
                      "        else:", "    elif y:"]
        seen = {"right": 0, "wrong": 0, "lacks": 0, "unlike": 0}
        for more in range(most):
            for rest in itertools.product(vocabulary, repeat=more):
                lines = ("down:",) + rest
                wrong = [number for number in range(len(lines)) if lines[:number + 1] not in heads][:1]
                if wrong:
                    kind, wanted = "wrong", wrong[0]
                elif lines not in texts:
                    kind, wanted = "lacks", len(lines)
                else:
                    kind, wanted = ("right" if texts[lines] is None else "unlike"), texts[lines]
                seen[kind] += 1
                try:
                    told = None
                    self.assertEqual(Routine.read("\n".join(lines)).text(), "\n".join(lines))
                except BadText as error:
                    told = error.line
                self.assertEqual(told, wanted, lines)
        self.assertTrue(all(many > 0 for many in seen.values()), seen)


if __name__ == "__main__":
    unittest.main()
