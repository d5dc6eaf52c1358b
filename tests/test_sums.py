"""Promise [20]: all sets, all trees."""

import time
import unittest
from fractions import Fraction

from lettertrees.errors import BadLetters, BadSize, BadWish, NotExact
from lettertrees.houses import known_house
from lettertrees.ratios import Ratio
from lettertrees.routines import Routine
from lettertrees.rules import Rule, known_rule
from lettertrees.sums import survey, wrong_pairs
from lettertrees.verdicts import Right, verdict
from tests.counting import exact_rule_of, plain_survey, plain_wrong_pairs
from tests.drawing import Drawer
from tests.searching import NAMES, variants
from tests.support import ALPHABET, TreesCase, odd_values

HOUSES = ("up", "kept", "joined")
WISHES = ("has", "put", "strike", "begins", "longest")
PLAIN, JOINED, BARE, FREE = [known_rule(name) for name in NAMES]
UP = known_house("up")
PUT, HAS = UP.routines["put"], UP.routines["has"]


def as_fraction(ratio):
    return Fraction(ratio.number, ratio.over)


class SurveyTest(TreesCase):
    def check(self, routine, rule, letters, length, many):
        told = survey(routine, rule, letters, length, many)
        steps, places, ends, wrong = plain_survey(routine, rule, letters, length, many)
        about = (routine.text(), letters, length, many)
        self.assertEqual(type(told.steps), Ratio)
        self.assertEqual(as_fraction(told.steps), steps, about)
        self.assertEqual(as_fraction(told.places), places, about)
        self.assertEqual({end: as_fraction(chance) for end, chance in told.ends.items()}, ends, about)
        self.assertEqual({wish: as_fraction(told.wrong(wish)) for wish in WISHES}, wrong, about)

    def test_the_example_of_the_document(self):
        told = survey(PUT, PLAIN, "ab", 1, 1)
        self.assertEqual([str(told.steps), str(told.places), str(told.ends[("yes", None)]), str(told.wrong("put")),
                          str(told.wrong("has"))], ["2", "2", "1/2", "0", "1"])

    def test_known_routines_against_plays(self):
        for name in HOUSES:
            house = known_house(name)
            for routine in house.routines.values():
                for letters in ("ab", "abc"):
                    words = len(letters)
                    for many in range(words + 1):
                        self.check(routine, house.rule, letters, 1, many)
                    for many in range(words ** 2 + 1) if letters == "ab" else (0, 1, 2, 8, 9):
                        self.check(routine, house.rule, letters, 2, many)

    def test_drawn_routines_and_rules_against_plays(self):
        drawer = Drawer(111)
        pool = [one for name in HOUSES for one in known_house(name).routines.values()]
        hows = {}
        for number in range(150):
            routine = Drawer(11100 + number, drawer.random.choice(["", "p", "x", "xyp"])).routine(1 + number % 7, 3)
            if number % 3 == 0:
                routine = drawer.random.choice(variants(drawer.random.choice(pool), drawer))
            rule = drawer.random.choice([PLAIN, JOINED, exact_rule_of(drawer)])
            letters, length = drawer.random.choice([("ab", 1), ("ab", 2), ("abc", 1), ("ba", 2), ("abcd", 1)])
            self.check(routine, rule, letters, length, drawer.random.randint(0, min(4, len(letters) ** length)))
            for end in survey(routine, rule, letters, length, 1).ends:
                hows[end] = True
        for end in ((None, "there"), (None, "none"), (None, "p"), (("at", 0), None), (("at", 1), None),
                    (("at", 2), None), ("yes", None), ("no", None), (None, None)):
            self.assertIn(end, hows)

    def test_longer_words_against_plays(self):
        drawer = Drawer(112)
        node = Routine.read("down:\n    if others == 1:\n        keep\nturn:\n    return p")
        for routine in (node, known_house("kept").routines["strike"], drawer.routine(6), drawer.routine(6)):
            for many in (1, 2, 7):
                self.check(routine, JOINED, "ab", 3, many)
        # What is cut off is told by how many words lie below, however deep they part.
        for text in ("up:\n    if at root:\n        cut\n        return yes", "up:\n    if others == 1:\n        cut",
                     "down:\n    if at root:\n        keep\nturn:\n    return yes, cut"):
            for many in (1, 2, 3, 5, 8):
                self.check(Routine.read(text), PLAIN, "ab", 3, many)
        self.check(UP.routines["strike"], PLAIN, "ab", 4, 2)
        self.check(UP.routines["strike"], PLAIN, "ab", 5, 1)

    def test_no_words_and_all_words(self):
        told = survey(PUT, PLAIN, "ab", 3, 0)
        self.assertEqual((told.steps, told.places, told.ends), (Ratio(4), Ratio(1), {("yes", None): Ratio(1)}))
        told = survey(PUT, PLAIN, "ab", 5, 32)
        self.assertEqual((told.steps, told.places, told.ends), (Ratio(6), Ratio(63), {("no", None): Ratio(1)}))
        self.assertEqual(told.wrong("put"), Ratio(0))
        self.assertEqual(told.wrong("strike"), Ratio(1))
        told = survey(HAS, PLAIN, ALPHABET, 1, 26)
        self.assertEqual((told.steps, told.places, told.ends), (Ratio(2), Ratio(27), {("yes", None): Ratio(1)}))

    def test_great_ones_within_seconds(self):
        begin = time.monotonic()
        for name in HOUSES:
            house = known_house(name)
            for wish, routine in house.routines.items():
                told = survey(routine, house.rule, ALPHABET, 5, 50)
                self.assertEqual(told.wrong(wish), Ratio(0))
                total = Ratio(0)
                for chance in told.ends.values():
                    total = total + chance
                self.assertEqual(total, Ratio(1))
                self.assertEqual(told.ends.get((("yes", "no")[wish == "put"], None), Ratio(50, 26 ** 5))
                                 if wish != "longest" else told.ends[(("at", 5), None)], Ratio(50, 26 ** 5))
        deep = Drawer(113).routine(8, 3)
        survey(deep, JOINED, ALPHABET, 5, 50)
        self.assertLess(time.monotonic() - begin, 20)

    def test_chances_of_wrong_ones(self):
        # lazy leaves a bare place behind unless another word goes on from each place above.
        lazy = known_house("lazy").routines["strike"]
        for many in range(4):
            told = survey(lazy, PLAIN, "ab", 1, min(many, 2))
            self.assertEqual(told.wrong("strike"), Ratio(min(many, 2), 2))
        for name in odd_values() + ["hast", ("has",)]:
            self.assert_error(BadWish, {"name": name}, survey(HAS, PLAIN, "ab", 1, 1).wrong, name)

    def test_errors_in_their_order(self):
        for rule in (BARE, FREE, Rule([], [])):
            self.assert_error(NotExact, {}, survey, HAS, rule, "a", 0, -1)
        for letters in odd_values():
            if letters != "ab":
                self.assert_error(BadLetters, {"letters": letters}, survey, HAS, PLAIN, letters, 0, -1)
        for size in odd_values() + [0, 6, 10 ** 20, "2"]:
            self.assert_error(BadSize, {"size": size}, survey, HAS, PLAIN, "ab", size, -1)
        for size in odd_values() + [51, 3, "1"]:
            self.assert_error(BadSize, {"size": size}, survey, HAS, PLAIN, "ab", 1, size)
        self.assert_error(BadSize, {"size": 51}, survey, HAS, PLAIN, "abc", 5, 51)
        self.assert_error(BadSize, {"size": 33}, survey, HAS, PLAIN, "ab", 5, 33)
        survey(HAS, PLAIN, "ab", 5, 32)
        survey(HAS, PLAIN, "abc", 4, 50)

    def test_equal_calls_return_equal_results(self):
        drawer = Drawer(114)
        for _ in range(20):
            routine, rule = drawer.routine(5), exact_rule_of(drawer)
            one, other = [survey(routine, rule, "abc", 2, 3) for _ in range(2)]
            self.assertEqual((one.steps, one.places, one.ends), (other.steps, other.places, other.ends))
            other.ends.clear()
            self.assertNotEqual(one.ends, {})
            self.assertEqual(one.wrong("put"), other.wrong("put"))
        self.assertEqual(survey.__module__, "lettertrees.sums")
        self.assertIn("wrong", vars(type(one)))


class WrongPairsTest(TreesCase):
    def test_the_example_of_the_document(self):
        self.assertEqual([wrong_pairs(PUT, PLAIN, "put", "ab", 3, 1), wrong_pairs(PUT, PLAIN, "has", "ab", 3, 1)], [0, 54])

    def check(self, routine, rule, wish, letters, size, longest):
        self.assertEqual(wrong_pairs(routine, rule, wish, letters, size, longest),
                         plain_wrong_pairs(routine, rule, wish, letters, size, longest),
                         (routine.text(), rule.root, rule.others, wish, letters, size, longest))

    def test_known_routines_against_plays(self):
        for name in HOUSES:
            house = known_house(name)
            for routine in house.routines.values():
                for wish in WISHES:
                    for size, longest in ((1, 3), (2, 3), (3, 2)):
                        self.check(routine, house.rule, wish, "ab", size, longest)
                    self.check(routine, JOINED, wish, "abc", 2, 2)

    def test_drawn_routines_and_rules_against_plays(self):
        drawer = Drawer(115)
        pool = [one for name in HOUSES for one in known_house(name).routines.values()]
        found = 0
        for number in range(120):
            routine = Drawer(11500 + number, drawer.random.choice(["", "p", "x", "xyp"])).routine(1 + number % 7, 3)
            if number % 3:
                routine = drawer.random.choice(variants(drawer.random.choice(pool), drawer))
            rule = drawer.random.choice([PLAIN, JOINED, exact_rule_of(drawer)])
            letters, size, longest = drawer.random.choice(
                [("ab", 1, 3), ("ab", 2, 3), ("ab", 3, 3), ("abc", 2, 2), ("abc", 3, 1), ("ba", 3, 0)])
            self.check(routine, rule, drawer.random.choice(WISHES), letters, size, longest)

    def test_four_places(self):
        for routine, rule, wish in ((known_house("lazy").routines["strike"], PLAIN, "strike"),
                                    (UP.routines["strike"], JOINED, "strike"), (PUT, JOINED, "put"),
                                    (UP.routines["longest"], PLAIN, "longest"), (UP.routines["begins"], PLAIN, "begins")):
            self.check(routine, rule, wish, "ab", 4, 2)
            self.check(routine, rule, wish, "abc", 3, 2)

    def test_great_ones_within_seconds(self):
        begin = time.monotonic()
        for name in HOUSES:
            house = known_house(name)
            for wish, routine in house.routines.items():
                self.assertEqual(wrong_pairs(routine, house.rule, wish, ALPHABET, 40, 3), 0)
        many = PLAIN.number_of_trees(ALPHABET, 40)
        self.assertEqual(wrong_pairs(PUT, PLAIN, "has", ALPHABET, 40, 3), many * (1 + 26 + 26 ** 2 + 26 ** 3))
        self.assertEqual(wrong_pairs(Routine([], [], []), JOINED, "has", ALPHABET, 40, 0),
                         JOINED.number_of_trees(ALPHABET, 40))
        for routine in (Drawer(116).routine(8, 3), Drawer(117).routine(8, 3)):
            wrong_pairs(routine, PLAIN, "put", ALPHABET, 40, 3)
        self.assertLess(time.monotonic() - begin, 20)

    def test_wrong_just_if_the_verdict_is(self):
        drawer = Drawer(118)
        for name in HOUSES:
            house = known_house(name)
            for wish, routine in house.routines.items():
                for other in drawer.random.sample(variants(routine, drawer), 6):
                    told = verdict(other, house.rule, wish)
                    wrong = [wrong_pairs(other, house.rule, wish, "abc", size, 3) for size in range(1, 6)]
                    if isinstance(told, Right):
                        self.assertEqual(wrong, [0] * 5)
                    elif told.tree.size <= 5 and len(told.word) <= 3:
                        self.assertGreater(wrong[told.tree.size - 1], 0)
                        self.assertEqual(wrong[:told.tree.size - 1], [0] * (told.tree.size - 1))

    def test_errors_in_their_order(self):
        for rule in (BARE, FREE, Rule([], [])):
            self.assert_error(NotExact, {}, wrong_pairs, HAS, rule, "hass", "a", 0, -1)
        for name in odd_values() + ["hass"]:
            self.assert_error(BadWish, {"name": name}, wrong_pairs, HAS, PLAIN, name, "a", 0, -1)
        for letters in odd_values():
            self.assert_error(BadLetters, {"letters": letters}, wrong_pairs, HAS, PLAIN, "has", letters, 0, -1)
        for size in odd_values() + [0, 41, 10 ** 20, "2"]:
            self.assert_error(BadSize, {"size": size}, wrong_pairs, HAS, PLAIN, "has", "ab", size, -1)
        for size in odd_values() + [4, -1, "2"]:
            self.assert_error(BadSize, {"size": size}, wrong_pairs, HAS, PLAIN, "has", "ab", 1, size)
        self.assertEqual(wrong_pairs(HAS, PLAIN, "has", "ab", 40, 3), 0)

    def test_equal_calls_return_equal_results(self):
        for wish in WISHES:
            numbers = [wrong_pairs(HAS, PLAIN, wish, letters, 5, 3) for letters in ("ab", "ba", "xy")]
            self.assertEqual(numbers, numbers[:1] * 3)
        self.assertEqual(wrong_pairs.__module__, "lettertrees.sums")


if __name__ == "__main__":
    unittest.main()
