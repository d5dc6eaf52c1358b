"""Promise [16]: routines that work on one tree."""

import itertools
import unittest

from lettertrees.cells import is_let
from lettertrees.errors import BadName, BadWish, NoPut, NotExact, TooMany
from lettertrees.houses import (
    House, is_history, kinds_behind, known_house, least_history, least_rule, rounds)
from lettertrees.plays import play
from lettertrees.right import judged
from lettertrees.routines import Routine
from lettertrees.rules import Rule, kind_of, known_rule
from lettertrees.tables import longer, whole
from lettertrees.trees import Tree
from lettertrees.verdicts import Right, Wrong, verdict
from tests.drawing import Drawer
from tests.searching import BOOLS, KINDS, ONE_WAY, drawn_rule, small_trees, variants
from tests.support import ALPHABET, TreesCase, odd_values
from tests.test_tables import ALL_CELLS, MANY

WISHES = ["has", "put", "strike", "begins", "longest"]
HOUSES = ("up", "kept", "joined", "lazy")
PLAIN, JOINED, BARE, FREE = [known_rule(name) for name in ("plain", "joined", "bare", "free")]
LAZY = Routine.read("turn:\n    if at end and marked:\n        unmark\n        return yes\n    return no")
UP = known_house("up")
FIRST = (False, False, 0)

# The texts as the document has them: a stroke ends a line, two points are four blanks.
TEXTS = {
    "has": "turn:/..if at end and marked:/....return yes/..return no",
    "put": "down:/..if not next:/....make/turn:/..if marked:/....return no/..mark/..return yes",
    "strike": "turn:/..if not at end or not marked:/....return no/..unmark/..if at root or not others == 0:/....return"
              " yes/up:/..cut/..if at root or marked or not others == 0:/....return yes",
    "begins": "turn:/..if not at end:/....return no/..if at root and not marked and others == 0:/....return no/..return"
              " yes",
    "longest": "down:/..if marked:/....keep/turn:/..if marked:/....keep/..return p",
    "kept strike": "down:/..if at root or marked or not others == 0:/....keep/turn:/..if not at end or not marked:/...."
                   "return no/..unmark/..if at root or not others == 0:/....return yes/..return yes, cut",
    "joined put": "down:/..if not next:/....make/..if at root or marked or not others == 0:/....f = false/..else:/...."
                  "f = true/turn:/..if marked:/....return no/..mark/..f = false/..return yes",
    "joined strike": "turn:/..if not at end or not marked:/....return no/..unmark/..if at root:/....return yes/..if "
                     "others == 1:/....f = true/..if not others == 0:/....return yes/up:/..cut/..if at root or marked:"
                     "/....return yes/..if others == 1:/....f = true/..if not others == 0:/....return yes",
    "lazy strike": "turn:/..if not at end or not marked:/....return no/..unmark/..return yes",
}


def document_text(name):
    lines = []
    for line in TEXTS[name].split("/"):
        words = line.lstrip(".")
        lines.append(" " * (2 * (len(line) - len(words))) + words)
    return "\n".join(lines)

# As MANY, with marks in the place of flags, which an exact rule does not let at will, and some place that is kept.
MANY_EXACT = Routine.read(
    MANY.text().replace("if f:", "if marked:").replace("down:", "down:\n    if others > 1:\n        keep"))


class HouseTest(TreesCase):
    def test_the_first_key_that_is_no_wish(self):
        has = UP.routines["has"]
        for name in (None, True, 1, "Has", "", ("has",), (), 10 ** 30, "puts"):
            self.assert_error(BadWish, {"name": name}, House, PLAIN, {name: has})
            self.assert_error(BadWish, {"name": name}, House, PLAIN, {"put": has, name: has, "other": has})
        self.assert_error(BadWish, {"name": "b"}, House, PLAIN, {"has": has, "b": has, "a": has})
        self.assertEqual(House(PLAIN, {}).routines, {})

    def test_the_order_of_the_dict(self):
        for wishes in (["put", "has"], ["longest", "begins", "strike", "put", "has"], ["strike"], []):
            house = House(PLAIN, {wish: UP.routines[wish] for wish in wishes})
            self.assertEqual(list(house.routines), wishes)
            self.assertEqual(list(house.verdicts()), wishes)
            self.assertIs(type(house.verdicts()), dict)
            for wish, told in house.verdicts().items():
                self.assertEqual((type(told), told.wish, told.routine), (Right, wish, UP.routines[wish]))

    def test_verdicts_are_those_of_each_routine(self):
        house = House(JOINED, {"put": UP.routines["put"], "strike": LAZY, "has": UP.routines["has"]})
        told = house.verdicts()
        self.assertEqual([type(told[wish]) for wish in told], [Wrong, Wrong, Right])
        for wish in ("put", "strike"):
            one = verdict(house.routines[wish], JOINED, wish)
            self.assertEqual((told[wish].tree, told[wish].word, told[wish].how), (one.tree, one.word, one.how))
        fields = {"what": "tables", "many": 2001, "most": 2000}
        self.assert_error(TooMany, fields, House(FREE, {"has": UP.routines["has"], "put": MANY}).verdicts)

    def test_dicts_that_are_changed_afterwards(self):
        given = dict(UP.routines)
        house = House(PLAIN, given)
        given.clear()
        self.assertEqual(list(house.routines), WISHES)
        house.routines.pop("has")
        self.assertEqual(list(house.routines), WISHES)
        house.verdicts().clear()
        self.assertEqual(list(house.verdicts()), WISHES)

    def test_equality(self):
        routines = UP.routines
        house = House(PLAIN, routines)
        self.assertEqual(house, UP)
        self.assertEqual(house, House(Rule(PLAIN.root[::-1], PLAIN.others), {w: routines[w] for w in WISHES[::-1]}))
        self.assertFalse(house != UP)
        for other in (House(BARE, routines), House(PLAIN, {**routines, "strike": LAZY}),
                      House(PLAIN, {wish: routines[wish] for wish in WISHES[:4]}), House(PLAIN, {}),
                      House(PLAIN, {**routines, "has": routines["put"], "put": routines["has"]})):
            self.assertNotEqual(house, other)
            self.assertNotEqual(other, house)
        for value in odd_values() + [PLAIN, routines, routines["has"]]:
            self.assertFalse(house == value)
            self.assertTrue(house != value)

    def test_known_houses(self):
        rules = {"up": PLAIN, "kept": PLAIN, "joined": JOINED, "lazy": BARE}
        for name in HOUSES:
            house = known_house(name)
            self.assertIs(type(house), House)
            self.assertEqual(house.rule, rules[name])
            wishes = [wish for wish in WISHES if name != "lazy" or wish != "begins"]
            self.assertEqual(list(house.routines), wishes)
            for wish, routine in house.routines.items():
                text = document_text(f"{name} {wish}" if f"{name} {wish}" in TEXTS else wish)
                self.assertEqual(routine.text(), text)
                self.assertEqual(routine, Routine.read(text))
            for wish, told in house.verdicts().items():
                self.assertIs(type(told), Right, (name, wish))
            self.assertEqual(house, known_house(name))
        for name in odd_values() + ["Up", "plain", "free", "up ", ("up",), "bare"]:
            self.assert_error(BadName, {"name": name}, known_house, name)

    def test_defined_in_their_file(self):
        for told in (House, is_history, kinds_behind, known_house, least_history, least_rule, rounds):
            self.assertEqual(told.__module__, "lettertrees.houses")


class HistoryTest(TreesCase):
    def steps(self, house, calls):
        """For each call of a history whether it is right."""
        tree, out = Tree(ALPHABET, [("", False, False)]), []
        for wish, word in calls:
            trace = play(tree, house.routines[wish], word)
            out.append(judged(wish, house.rule, tree, word, trace) == "right")
            tree = trace.tree
        return out

    def is_wrong(self, house, calls):
        steps = self.steps(house, calls)
        return all(steps[:-1]) and not steps[-1]

    def plain_search(self, house, most=3):
        """The least length of a wrong history with words of up to two letters, and of puts and one call more."""
        words = ("", "a", "b", "aa", "ab", "ba")
        calls = [(wish, word) for wish in house.routines for word in words]
        ahead = [((), Tree(ALPHABET, [("", False, False)]))]
        for length in range(1, most + 1):
            behind = []
            for told, tree in ahead:
                for wish, word in calls:
                    trace = play(tree, house.routines[wish], word)
                    if judged(wish, house.rule, tree, word, trace) != "right":
                        return length
                    if trace.tree not in [one for _, one in behind]:
                        behind.append((told + ((wish, word),), trace.tree))
            ahead = behind
        for many in range(most, 4):
            for puts in itertools.combinations(words, many):
                calls = [("put", word) for word in puts]
                for wish in house.routines:
                    for word in words + ("aaa", "aab"):
                        steps = self.steps(house, calls + [(wish, word)])
                        if not all(steps):
                            return steps.index(False) + 1
        return None

    def test_the_examples_of_the_document(self):
        house = House(UP.rule, {"put": UP.routines["put"], "strike": LAZY})
        told = least_history(house)
        self.assertEqual([len(told), [wish for wish, word in told]], [2, ["put", "strike"]])
        self.assertIs(is_history(house, told), True)
        self.assertIs(is_history(house, told[:1]), False)
        self.assertIsNone(least_history(UP))

    def check(self, house, most=3):
        told = least_history(house)
        small = self.plain_search(house, most)
        if told is None:
            self.assertTrue(all(isinstance(one, Right) for one in house.verdicts().values()))
            self.assertIsNone(small)
            return 0
        self.assertIs(type(told), tuple)
        for call in told:
            self.assertEqual([type(part) for part in call], [str, str])
        self.assertTrue(self.is_wrong(house, told), told)
        self.assertIs(is_history(house, told), True)
        if small is not None:
            self.assertEqual(len(told), small)
        else:
            self.assertGreater(len(told), most)
        self.assertEqual(told, least_history(house))
        return len(told)

    def test_known_houses_with_one_statement_otherwise(self):
        drawer = Drawer(81)
        lengths = {}
        for name in ("up", "kept", "joined"):
            house = known_house(name)
            routines = {wish: house.routines[wish] for wish in ("has", "put", "strike")}
            for rule in (house.rule, PLAIN, JOINED, self.exact_rule(drawer), self.exact_rule(drawer)):
                self.check(House(rule, routines), 2)
                by_length = {}
                for wish in routines:
                    for other in variants(routines[wish], drawer):
                        other_house = House(rule, {**routines, wish: other})
                        by_length.setdefault(len(least_history(other_house) or ()), []).append(other_house)
                for length, houses in by_length.items():
                    for other_house in drawer.random.sample(houses, min(3, len(houses))):
                        self.assertEqual(self.check(other_house, 2), length)
                        lengths[length] = lengths.get(length, 0) + 1
        for length in (0, 1, 2, 3):
            self.assertGreater(lengths.get(length, 0), 2, lengths)

    def exact_rule(self, drawer):
        root = [(mark, drawer.random.random() < 0.5, many) for mark in BOOLS for many in (0, 1, 2)]
        others = [(mark, drawer.random.random() < 0.5, many) for mark in BOOLS for many in (0, 1, 2)]
        rule = Rule([FIRST] + root[1:], others[1:])
        self.assertTrue(rule.is_exact())
        return rule

    def test_a_put_that_is_wrong_itself(self):
        wrong_at_once = Routine.read("turn:\n    return no")
        house = House(PLAIN, {"has": UP.routines["has"], "put": wrong_at_once})
        told = least_history(house)
        self.assertEqual([wish for wish, _ in told], ["put"])
        # Right on the empty tree alone: it puts nothing beside another word.
        shy = Routine.read("down:\n    if others == 0 and not next:\n        make\nturn:\n    if not at end:\n"
                           "        return no\n    if marked:\n        return no\n    mark\n    return yes")
        house = House(PLAIN, {"put": shy, "has": UP.routines["has"]})
        told = least_history(house)
        self.assertEqual([wish for wish, _ in told], ["put", "put"])
        self.assertTrue(self.is_wrong(house, told))

    def test_wrong_only_where_several_words_are_kept(self):
        # Says no if it went by two marked places above the end.
        for many, test in ((3, "x"), (4, "y")):
            text = ("down:\n    if marked:\n        if x:\n            y = true\n        x = true\nturn:\n"
                    "    if at end and marked:\n        if " + ("y" if many == 4 else "x and others == 1") +
                    ":\n            return no\n        return yes\n    return no")
            house = House(PLAIN, {"has": Routine.read(text), "put": UP.routines["put"]})
            told = least_history(house)
            self.assertEqual(len(told), 4)
            self.assertEqual([wish for wish, _ in told], ["put"] * 3 + ["has"])
            self.assertTrue(self.is_wrong(house, told))
            self.assertEqual(self.check(house, 2), 4)

    def test_least_in_words_not_in_places(self):
        # Wrong at once where two words leave the root, or, of one word, at a place four letters down.
        text = ("down:\n    if at root and others > 1:\n        return node\n    if x and y:\n        return node\n"
                "    if x:\n        x = false\n        y = true\n    elif y:\n        x = true\n    else:\n        x = true\n"
                "turn:\n    if at end and marked:\n        return yes\n    return no")
        house = House(PLAIN, {"put": UP.routines["put"], "has": Routine.read(text)})
        told = least_history(house)
        self.assertEqual([wish for wish, _ in told], ["put", "has"])
        self.assertTrue(self.is_wrong(house, told))

    def test_errors_in_their_order(self):
        routines = UP.routines
        no_put = {wish: routines[wish] for wish in WISHES if wish != "put"}
        for rule in (BARE, FREE, Rule([], []), Rule(PLAIN.root, KINDS)):
            self.assert_error(NotExact, {}, least_history, House(rule, {**no_put, "has": MANY}))
            self.assert_error(NotExact, {}, least_history, House(rule, routines))
        self.assert_error(NoPut, {}, least_history, House(PLAIN, no_put))
        self.assert_error(NoPut, {}, least_history, House(JOINED, {}))
        fields = {"what": "tables", "many": 2001, "most": 2000}
        self.assert_error(TooMany, fields, least_history, House(PLAIN, {"put": routines["put"], "has": MANY_EXACT}))

    def test_is_history(self):
        house = House(PLAIN, {"put": UP.routines["put"], "strike": LAZY})
        wrong = [("put", "ab"), ("strike", "ab")]
        for calls in (wrong, tuple(wrong), [("put", "b")] + wrong, wrong[:1] * 2 + wrong[1:]):
            self.assertIs(is_history(house, calls), self.is_wrong(house, calls))
            self.assertIs(is_history(house, calls), True)
        for calls in ([], (), wrong[:1], wrong + [("put", "c")], wrong + wrong[1:], [("strike", "ab")],
                      [("put", ""), ("strike", "")], [("put", "z")], wrong + wrong):
            self.assertIs(is_history(house, calls), False)

    def test_wishes_and_words_that_are_none(self):
        house = House(PLAIN, {"put": UP.routines["put"], "strike": LAZY})
        for name in odd_values() + ["has", "begins"]:
            self.assertIs(is_history(house, [("put", "ab"), (name, "ab")]), False)
            self.assertIs(is_history(house, [(name, "ab"), ("put", "ab"), ("strike", "ab")]), False)
        wrong = House(FREE, {"has": Routine.read("turn:\n    return node")})
        self.assertIs(is_history(wrong, [("has", "abz")]), True)
        for word in odd_values():
            if word not in ("",):
                self.assertIs(is_history(wrong, [("has", word)]), False, word)
        self.assertIs(is_history(wrong, [("has", "z" * 200)]), True)
        self.assertIs(is_history(wrong, [("has", "z" * 201)]), False)

    def test_rules_that_are_not_exact_and_houses_without_a_put(self):
        marks = Routine([], [("mark",), ("return", "no")], [])
        house = House(BARE, {"has": marks})
        self.assertIs(is_history(house, [("has", "")]), True)
        self.assertIs(is_history(House(Rule([], []), {"has": UP.routines["has"]}), [("has", "a")]), True)
        self.assertIs(is_history(House(BARE, {"has": UP.routines["has"]}), [("has", "a")] * 3), False)
        lazy = known_house("lazy")
        self.assertIs(is_history(lazy, [("put", "a"), ("strike", "a"), ("has", "a"), ("put", "b")]), False)

    def test_too_many_places(self):
        puts = [("put", letter + "z" * 199) for letter in ALPHABET[:10]]
        self.assertIs(is_history(House(PLAIN, {"put": UP.routines["put"], "has": LAZY}), puts), False)
        self.assertIs(is_history(House(PLAIN, {"put": UP.routines["put"], "has": LAZY}), puts[:9] + [("has", "cz")]),
                      False)
        wrong_at_end = House(PLAIN, {"put": UP.routines["put"], "has": Routine([], [], [])})
        self.assertIs(is_history(wrong_at_end, puts[:9] + [("has", "c")]), True)
        self.assertIs(is_history(wrong_at_end, puts + [("has", "c")]), False)


def kinds_by_tables(routine, rule):
    """The kinds behind calls, told by tables of rules that let all kinds but one."""
    def found(let):
        known, ahead = set(), [None]
        while ahead:
            table = ahead.pop()
            there = table is not None and table[0]
            for cell in ([] if there else [None]) + [one for one in ALL_CELLS if is_let(rule, one, False, there)]:
                told = longer(routine, let, cell, table)
                if told not in known:
                    known.add(told)
                    ahead.append(told)
        return known

    def comes_up(let, tables):
        for table in [None] + list(tables):
            for cell in ALL_CELLS:
                if is_let(rule, cell, True, table is not None and table[0]):
                    if not whole(routine, let, cell, table)[5][0][1][3]:
                        return True
        return False

    roots, others = [], []
    has_parts = any(kind[2] for kind in rule.root) and any(kind[2] == 0 for kind in rule.others)
    tables = found(Rule(KINDS, KINDS))
    for kind in KINDS:
        rest = [one for one in KINDS if one != kind]
        if comes_up(Rule(rest, KINDS), tables):
            roots.append(kind)
        if (has_parts and kind in rule.others) or comes_up(Rule(KINDS, rest), found(Rule(KINDS, rest))):
            others.append(kind)
    return tuple(roots), tuple(others)


class KindsTest(TreesCase):
    def test_the_examples_of_the_document(self):
        put = UP.routines["put"]
        self.assertEqual(kinds_behind(put, rounds([put])[0]),
                         (((False, False, 1), (True, False, 0)), ((False, False, 1), (True, False, 0))))
        self.assertEqual(least_rule([put, UP.routines["strike"]]), UP.rule)

    def assert_holds_plays(self, routine, rule, most=3):
        roots, others = kinds_behind(routine, rule)
        for told in (roots, others):
            self.assertIs(type(told), tuple)
            self.assertEqual(list(told), sorted(set(told)))
        for trees in small_trees(rule, "ab", most):
            for tree in trees:
                for word in ONE_WAY:
                    told = play(tree, routine, word).tree
                    for place, _, _ in told.rows:
                        self.assertIn(kind_of(told, place), others if place else roots)

    def test_against_plays_and_tables(self):
        drawer = Drawer(83)
        routines = [one for name in HOUSES for one in known_house(name).routines.values()]
        for number in range(80):
            rule = drawn_rule(drawer)
            if number % 2:
                routine = drawer.random.choice(variants(drawer.random.choice(routines), drawer))
            else:
                routine = Drawer(830 + number, drawer.random.choice(["", "p", "x", "xp"])).routine(1 + number % 6, 3)
            self.assert_holds_plays(routine, rule, 2)
            self.assertEqual(kinds_behind(routine, rule), kinds_by_tables(routine, rule), (routine.text(), rule.others))

    def test_known_routines_against_all_small_trees(self):
        for name in HOUSES:
            for routine in known_house(name).routines.values():
                for rule in (PLAIN, JOINED, BARE):
                    self.assert_holds_plays(routine, rule)
                    self.assertEqual(kinds_behind(routine, rule), kinds_by_tables(routine, rule))

    def test_cuts_misuses_and_flags(self):
        root, low = [(False, False, 1)], [(True, False, 0), (False, False, 1)]
        chain = Rule(root, low)
        cut_up = Routine([], [], [("cut",), ("return", "yes")])
        self.assertEqual(kinds_behind(cut_up, chain),
                         (((False, False, 0), (False, False, 1)),
                          ((False, False, 0), (False, False, 1), (True, False, 0))))
        flag_then_misuse = Routine([], [("set", "f", True), ("cut",)], [])
        # The call turns at the last place, where nothing is to be cut, or at the root.
        self.assertEqual(kinds_behind(flag_then_misuse, chain),
                         (((False, False, 1), (False, True, 1)),
                          ((False, False, 1), (False, True, 1), (True, False, 0), (True, True, 0))))
        at_kept = Routine.read("down:\n    if at root:\n        keep\nturn:\n    f = true\n    return yes, cut")
        # What is below the root is cut off with its flag, if the call comes there at all; the empty word keeps none.
        self.assertEqual(kinds_behind(at_kept, chain),
                         (((False, False, 0), (False, True, 1)), ((False, False, 1), (True, False, 0))))
        make = Routine([("make",), ("stop",)], [], [])
        # The root's child is there, or another one is made beside it.
        self.assertEqual(kinds_behind(make, chain),
                         (((False, False, 1), (False, False, 2)), ((False, False, 0), (False, False, 1), (True, False, 0))))

    def test_kinds_off_the_way_and_the_empty_word(self):
        rule = Rule([(False, True, 2)], [(True, True, 0), (False, True, 2)])
        nothing = Routine([], [], [])
        self.assertEqual(kinds_behind(nothing, rule), (rule.root, rule.others))
        unmark = Routine([], [("unmark",)], [])
        self.assertEqual(kinds_behind(unmark, rule),
                         (((False, True, 2),), ((False, True, 0), (False, True, 2), (True, True, 0))))

    def test_rules_under_which_no_tree_is(self):
        for rule in (Rule([], []), Rule([], KINDS), Rule([(False, False, 2)], [(True, False, 1)]),
                     Rule([(True, False, 1)], [])):
            for routine in UP.routines.values():
                self.assertEqual(kinds_behind(routine, rule), ((), ()))
        only_root = Rule([(False, False, 0), (True, False, 1)], [(True, False, 2)])
        self.assertEqual(kinds_behind(UP.routines["has"], only_root), (((False, False, 0),), ()))

    def test_too_many_tables(self):
        fields = {"what": "tables", "many": 2001, "most": 2000}
        self.assert_error(TooMany, fields, kinds_behind, MANY, FREE)
        # Together they let all kinds come up.
        one_each = [Routine([one], [one], []) for one in (("mark",), ("unmark",), ("set", "f", True))]
        one_each.append(Routine([("if", ("not", ("next",)), [("make",)], [])], [], []))
        self.assertEqual(least_rule(one_each), FREE)
        self.assert_error(TooMany, fields, rounds, one_each + [MANY])
        self.assert_error(TooMany, fields, least_rule, [MANY] + one_each)

    def test_equal_calls_return_equal_results(self):
        drawer = Drawer(86)
        for _ in range(40):
            routine, rule = drawer.routine(6), drawn_rule(drawer)
            before = (routine.text(), rule.root, rule.others)
            told = kinds_behind(routine, rule)
            self.assertEqual(told, kinds_behind(Routine.read(routine.text()), Rule(rule.root[::-1], rule.others)))
            self.assertEqual(before, (routine.text(), rule.root, rule.others))

    def test_rounds(self):
        drawer = Drawer(84)
        pool = [one for name in HOUSES for one in known_house(name).routines.values()]
        pool += drawer.random.sample([other for one in pool for other in variants(one, drawer)], 30)
        for number in range(60):
            routines = drawer.random.sample(pool, 1 + number % 3)
            told = rounds(routines)
            self.assertIs(type(told), tuple)
            self.assertEqual(told[0], Rule([FIRST], []))
            for one, after in zip(told, told[1:] + told[-1:]):
                root, others = set(one.root), set(one.others)
                for routine in routines:
                    behind = kinds_behind(routine, one)
                    root |= set(behind[0])
                    others |= set(behind[1])
                self.assertEqual(after, Rule(sorted(root), sorted(others)))
                self.assertEqual(after == one, one is told[-1])
            self.assertEqual(least_rule(routines), told[-1])
            self.assertEqual(told, rounds(tuple(routines)))
        self.assertEqual(rounds([]), (Rule([FIRST], []),))

    def test_the_last_one_is_kept_by_all(self):
        for name in HOUSES:
            house = known_house(name)
            rule = least_rule(list(house.routines.values()))
            self.assertEqual(rule, house.rule)
            for trees in small_trees(rule, "ab", 4):
                for tree in trees[:150]:
                    for wish, routine in house.routines.items():
                        for word in ("", "a", "ab", "aa", "b", "abb"):
                            self.assertTrue(rule.keeps(play(tree, routine, word).tree))
        self.assertEqual(least_rule([UP.routines["has"]]), Rule([FIRST], []))

    def test_least_of_two_rules_that_are_kept(self):
        # Any rule that is kept and that the empty tree keeps lets what the least one lets.
        for name in HOUSES:
            routines = list(known_house(name).routines.values())
            least = least_rule(routines)
            for other in (PLAIN, JOINED, BARE, FREE):
                behind = [kinds_behind(routine, other) for routine in routines]
                if all(set(root) <= set(other.root) and set(low) <= set(other.others) for root, low in behind):
                    self.assertLessEqual(set(least.root), set(other.root))
                    self.assertLessEqual(set(least.others), set(other.others))


if __name__ == "__main__":
    unittest.main()
