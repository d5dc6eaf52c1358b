"""Promise [21]: great trees."""

import itertools
import unittest

from lettertrees.errors import (
    BadLetters, BadRank, BadRule, BadWord, NoPlace, NoRule, Ring, TooMany)
from lettertrees.groves import Grove
from lettertrees.houses import known_house
from lettertrees.plays import play
from lettertrees.routines import Routine
from lettertrees.trees import Tree
from tests.drawing import Drawer
from tests.searching import all_words, variants
from tests.support import ALPHABET, TreesCase, odd_values

HOUSES = ("up", "kept", "joined", "lazy")
UP = known_house("up")
PUT, STRIKE, HAS = [UP.routines[wish] for wish in ("put", "strike", "has")]


def capital(number):
    """A name for each number."""
    return "".join("ABCDEFGHIJ"[int(sign)] for sign in str(number))


def full(letters, levels, mark=lambda level: level == 0):
    """All words of so many letters, each level told once; marks by the number of levels below."""
    rules = {capital(level): (mark(level), False, {letter: capital(level - 1) for letter in letters} if level else {})
             for level in range(levels + 1)}
    return Grove(letters, rules, capital(levels))


def drawn_grove(drawer, letters, names, most=60):
    """A grove in which names stand at many places; its tree has at most so many places."""
    rules, sizes = {}, {}
    for number in range(names):
        parts = {}
        for letter in letters:
            if number and drawer.random.random() < 0.5:
                part = capital(drawer.random.randrange(number))
                if sum(sizes[one] for one in parts.values()) + sizes[part] < most:
                    parts[letter] = part
        rules[capital(number)] = (drawer.random.random() < 0.5, drawer.random.random() < 0.3, parts)
        sizes[capital(number)] = 1 + sum(sizes[part] for part in parts.values())
    order = list(rules)
    drawer.random.shuffle(order)
    return Grove(letters, {name: rules[name] for name in order}, capital(names - 1))


class MadeTest(TreesCase):
    def test_the_example_of_the_document(self):
        grove = full("ab", 7)
        self.assertEqual([grove.size, grove.many, grove.rank("b"), grove.word_of(3), grove.begins("ab")],
                         [255, 128, 64, "aaaaabb", 32])
        answer, kind, more = grove.call(PUT, "ab")
        self.assertEqual([answer, kind, more.many, more.rank("abaaaaa"), grove.many], ["yes", None, 129, 33, 128])

    def test_letters(self):
        leaf = {"A": (True, False, {})}
        for letters in odd_values():
            self.assert_error(BadLetters, {"letters": letters}, Grove, letters, {}, None)
            self.assert_error(BadLetters, {"letters": letters}, Grove, letters, leaf, "A")

    def test_the_number_of_rules(self):
        self.assert_error(TooMany, {"what": "rules", "many": 0, "most": 1000}, Grove, "ab", {}, None)
        rules = {capital(number): (True, False, {}) for number in range(1001)}
        bad = {**rules, "a": None}
        bad.pop("A")
        self.assert_error(TooMany, {"what": "rules", "many": 1001, "most": 1000}, Grove, "ab", rules, "A")
        self.assert_error(TooMany, {"what": "rules", "many": 1001, "most": 1000}, Grove, "ab", bad, "A")
        rules.popitem()
        self.assertEqual(Grove("ab", rules, "A").size, 1)
        self.assertEqual(len(Grove("ab", rules, "A").rules), 1000)

    def test_keys_that_are_no_names(self):
        leaf = (True, False, {})
        for name in ("", "ABCDEFGHI", "a", "Ab", "A1", "A ", "\u00c4", None, True, 3, (), ("A",), Grove):
            self.assert_error(BadRule, {"name": name}, Grove, "ab", {"A": leaf, name: leaf, "B": None}, "A")
            self.assert_error(BadRule, {"name": name}, Grove, "ab", {name: leaf}, name)
        for name in ("A", "Z", "ABCDEFGH", "ZZZZZZZZ"):
            self.assertEqual(Grove("ab", {name: leaf}, name).root, name)

    def test_values_that_are_no_triples(self):
        values = [value for value in odd_values()]
        values += [(True, False), (True, False, {}, {}), (1, False, {}), (True, 0, {}), (None, False, {}),
                   (True, False, None), (True, False, []), (True, False, ()), (True, False, "a"), {0: True, 1: False, 2: {}},
                   ("A", True, False, {}), (True, False, {"a"})]
        for value in values:
            self.assert_error(BadRule, {"name": "B"}, Grove, "ab", {"A": (True, False, {}), "B": value, "C": None}, "A")

    def test_parts_with_other_keys_or_names(self):
        for key in ("c", "", "ab", "A", None, True, 0, ("a",), ()):
            rules = {"A": (True, False, {}), "B": (True, False, {"a": "A", key: "A"})}
            self.assert_error(BadRule, {"name": "B"}, Grove, "ab", rules, "B")
        for part in odd_values() + ["C", "AA", ""]:
            if part != "A":
                rules = {"A": (True, False, {}), "B": (True, False, {"b": part})}
                self.assert_error(BadRule, {"name": "B"}, Grove, "ab", rules, "B")

    def test_the_first_bad_key_in_the_order_of_the_dict(self):
        leaf = (True, False, {})
        for order, first in ((["B", "a", "C"], "a"), (["C", "B", "a"], "C"), (["a", "C", "B"], "a")):
            values = {"B": leaf, "a": leaf, "C": (True, False, {"a": "D"})}
            self.assert_error(BadRule, {"name": first}, Grove, "ab", {name: values[name] for name in order}, "B")
        # A key that is no name is wrong itself, not the rule that names it.
        for name in ("a", None, 5, ("A",)):
            rules = {"B": (True, False, {"a": name}), name: leaf}
            self.assert_error(BadRule, {"name": name}, Grove, "ab", rules, "B")

    def test_rings(self):
        def rules_of(text):
            """A part for each pair of names."""
            out = {}
            for one in text.split():
                out.setdefault(one[0], (False, False, {}))
                if len(one) > 1:
                    out.setdefault(one[1], (False, False, {}))
                    parts = out[one[0]][2]
                    parts["abc"[len(parts)]] = one[1]
            return out

        for text, first in (("AA", "A"), ("AB BA", "A"), ("ZB BC CB", "B"), ("AB BC CD DB", "B"), ("AZ ZY YZ", "Y"),
                            ("A BB CC", "B"), ("AC CC BB", "B"), ("AB BC CA AD DE ED", "A"), ("DC CD AB BE AD", "C"),
                            ("AX XY YA XX", "A"), ("BX XY YX AB", "X")):
            rules = rules_of(text)
            for root in (sorted(rules)[0], sorted(rules)[-1], "Q", None, []):
                self.assert_error(Ring, {"name": first}, Grove, "abc", rules, root)
            other = {name: rules[name] for name in sorted(rules, reverse=True)}
            self.assert_error(Ring, {"name": first}, Grove, "abc", other, "A")
        self.assertEqual(Grove("abc", rules_of("AB AC BD CD AD BC"), "A").size, 8)

    def test_rings_of_many_names(self):
        letters = ALPHABET
        names = [capital(number) for number in range(1000)]
        rules = {name: (False, False, {letter: names[min(999, at + step + 1)] for step, letter in enumerate(letters)})
                 for at, name in enumerate(names)}
        rules[names[999]] = (False, False, {"a": names[500]})
        self.assert_error(Ring, {"name": min(names[500:])}, Grove, letters, rules, names[0])

    def test_roots(self):
        rules = {"A": (True, False, {}), "B": (False, False, {"a": "A"})}
        for root in odd_values() + ["C", "AB", "", 0]:
            if root != "A":
                self.assert_error(NoRule, {"root": root}, Grove, "ab", rules, root)
        self.assertEqual([Grove("ab", rules, root).size for root in "AB"], [1, 2])

    def test_the_longest_place(self):
        for levels in (200, 201):
            rules = {capital(level): (True, False, {"a": capital(level - 1)} if level else {}) for level in range(levels + 1)}
            if levels == 200:
                grove = Grove("ab", rules, capital(levels))
                self.assertEqual((grove.size, grove.many, grove.has("a" * 200), grove.has("a" * 201)),
                                 (201, 201, True, False))
            else:
                self.assert_error(TooMany, {"what": "letters", "many": 201, "most": 200}, Grove, "ab", rules,
                                  capital(levels))
                self.assert_error(NoRule, {"root": None}, Grove, "ab", rules, None)
                # Names that stand not below the root may go as deep as they like.
                self.assertEqual(Grove("ab", rules, capital(200)).size, 201)

    def test_names_not_below_the_root(self):
        rules = {"B": (True, False, {"a": "A", "b": "A"}), "A": (True, False, {}), "C": [False, True, {"b": "B"}]}
        grove = Grove("ab", rules, "A")
        self.assertEqual((grove.size, grove.many, grove.root, grove.letters), (1, 1, "A", "ab"))
        self.assertEqual(grove.rules, {"B": (True, False, {"a": "A", "b": "A"}), "A": (True, False, {}),
                                       "C": (False, True, {"b": "B"})})
        _, _, behind = grove.call(HAS, "a")
        self.assertEqual((behind.size, len(behind.rules)), (1, 1))

    def test_what_is_changed_afterwards(self):
        parts = {"a": "A"}
        rules = {"A": (True, False, {}), "B": [False, False, parts]}
        grove = Grove("ab", rules, "B")
        wanted = {"A": (True, False, {}), "B": (False, False, {"a": "A"})}
        parts["b"] = "A"
        rules["B"][0] = True
        rules["C"] = rules.pop("A")
        self.assertEqual(grove.rules, wanted)
        told = grove.rules
        told["B"][2].clear()
        told.clear()
        self.assertEqual(grove.rules, wanted)
        self.assertIsNot(grove.rules, grove.rules)
        self.assertEqual((grove.size, grove.below("")), (2, "a"))
        for value in grove.rules.values():
            self.assertEqual([type(part) for part in value], [tuple, bool, bool, dict][1:])
            self.assertIs(type(value), tuple)


class AskedTest(TreesCase):
    def test_against_the_unfolded_tree(self):
        drawer = Drawer(121)
        for number in range(150):
            letters = drawer.random.choice(["ab", "ba", "cab", "bca", "dacb"])
            grove = drawn_grove(drawer, letters, 1 + number % 9)
            tree = grove.unfolded()
            self.assertEqual((grove.size, grove.many), (tree.size, len(tree.words())))
            self.assertEqual((type(tree), tree.letters, grove.letters), (Tree, letters, letters))
            for word in all_words(letters, 3) + [row[0] for row in tree.rows]:
                self.assertIs(grove.has(word), tree.has(word))
                if tree.has(word):
                    self.assertEqual((grove.row(word), grove.below(word)), (tree.row(word), tree.below(word)))
                else:
                    self.assert_error(NoPlace, {"place": word}, grove.row, word)
                    self.assert_error(NoPlace, {"place": word}, grove.below, word)
                words = tree.words()
                self.assertEqual(grove.begins(word), len([one for one in words if one.startswith(word)]))
                key = [letters.index(letter) for letter in word]
                ahead = [one for one in words if [letters.index(letter) for letter in one] < key]
                self.assertEqual(grove.rank(word), len(ahead))
            self.assertEqual(tuple(grove.word_of(rank) for rank in range(grove.many)), tree.words())

    def test_values_that_are_no_places_words_or_ranks(self):
        grove = full("ab", 3)
        for value in odd_values() + ["c", "abab", "a" * 201, "aB"]:
            if value not in ("", "a"):
                self.assertIs(grove.has(value), False)
                self.assert_error(NoPlace, {"place": value}, grove.row, value)
                self.assert_error(NoPlace, {"place": value}, grove.below, value)
        for value in odd_values() + ["c", "a" * 201, "aB", "abc"]:
            if value not in ("", "a"):
                self.assert_error(BadWord, {"number": 0}, grove.begins, value)
                self.assert_error(BadWord, {"number": 0}, grove.rank, value)
                self.assert_error(BadWord, {"number": 0}, grove.call, HAS, value)
        self.assertEqual([grove.begins("a" * 200), grove.rank("b" * 200), grove.rank("a" * 200), grove.begins("")],
                         [0, 8, 1, 8])
        for value in odd_values() + [8, -1, 10 ** 30, "1", (0,)]:
            self.assert_error(BadRank, {"number": value}, grove.word_of, value)
        none = Grove("ab", {"A": (False, False, {})}, "A")
        self.assert_error(BadRank, {"number": 0}, none.word_of, 0)
        self.assertEqual((none.many, none.rank("ab"), none.begins("")), (0, 0, 0))

    def test_numbers_of_forty_figures(self):
        grove = full("ab", 133)
        self.assertEqual((grove.size, grove.many), (2 ** 134 - 1, 2 ** 133))
        self.assertGreater(grove.many, 10 ** 40)
        rank = 10 ** 39 + 7
        word = grove.word_of(rank)
        self.assertEqual((len(word), grove.rank(word)), (133, rank))
        self.assertEqual(word, "".join("ab"[(rank >> bit) & 1] for bit in range(132, -1, -1)))
        self.assertEqual(grove.begins("ab" * 20), 2 ** 93)
        many = full(ALPHABET[::-1], 100, lambda level: level % 7 == 0)
        self.assertEqual(many.size, sum(26 ** level for level in range(101)))
        for rank in (0, 1, 26 ** 30, many.many - 1, many.many // 3):
            self.assertEqual(many.rank(many.word_of(rank)), rank)
        self.assertEqual(many.word_of(0), "zz")
        fields = {"what": "places", "many": many.size, "most": 2000}
        self.assert_error(TooMany, fields, many.unfolded)

    def test_unfolded(self):
        rows = [("", False, False)] + [("a" * at, True, False) for at in range(1, 200)]
        grove = full("ab", 9)
        self.assertEqual(grove.size, 1023)
        self.assertEqual(grove.unfolded().size, 1023)
        self.assert_error(TooMany, {"what": "places", "many": 2047, "most": 2000}, full("ab", 10).unfolded)
        self.assertEqual(len(rows), 200)
        leaf = Grove("ba", {"Q": (True, True, {})}, "Q")
        self.assertEqual(leaf.unfolded(), Tree("ba", [("", True, True)]))


class CallTest(TreesCase):
    def check(self, grove, routine, word):
        """A call on the grove, and the play on the unfolded tree."""
        before = grove.rules
        answer, kind, behind = grove.call(routine, word)
        trace = play(grove.unfolded(), routine, word)
        self.assertEqual((answer, kind), (trace.answer, trace.kind), (routine.text(), word))
        self.assertEqual(type(behind), Grove)
        self.assertEqual(behind.unfolded(), trace.tree, (routine.text(), word))
        self.assertEqual(grove.rules, before)
        self.assertEqual((behind.size, behind.many), (trace.tree.size, len(trace.tree.words())))
        # Each place of the way has a name of its own; the others are those that stand below other children.
        way = [word[:length] for length in range(len(word) + 1) if trace.tree.has(word[:length])]
        self.assertEqual(len(behind.rules), len(way) + len(self.names_beside(grove, trace.tree, word)))
        return behind

    def names_beside(self, grove, tree, word):
        """The names of the grove that stand below other children of the way's places that are there then."""
        rules, found = grove.rules, set()
        name = grove.root
        for depth in range(len(word) + 1):
            if name is None or not tree.has(word[:depth]):
                break
            parts = rules[name][2]
            ahead = [parts[letter] for letter in parts if letter != word[depth:depth + 1]]
            while ahead:
                one = ahead.pop()
                if one not in found:
                    found.add(one)
                    ahead += rules[one][2].values()
            name = parts.get(word[depth:depth + 1])
        return found

    def test_known_routines(self):
        drawer = Drawer(122)
        for number in range(60):
            letters = drawer.random.choice(["ab", "ba", "cab"])
            grove = drawn_grove(drawer, letters, 1 + number % 8)
            for name in HOUSES:
                for routine in known_house(name).routines.values():
                    for word in ("", "a", drawer.word(letters, 5), drawer.word(letters, 3)):
                        self.check(grove, routine, word)

    def test_drawn_routines(self):
        drawer = Drawer(123)
        kinds = {}
        for number in range(600):
            letters = drawer.random.choice(["ab", "cab"])
            grove = drawn_grove(drawer, letters, 2 + number % 8)
            routine = drawer.routine(1 + number % 8, 3)
            word = drawer.word(letters, 5)
            self.check(grove, routine, word)
            answer, kind, _ = grove.call(routine, word)
            kinds[kind or (answer if isinstance(answer, str) else answer and answer[0])] = True
        for kind in ("there", "none", "p", "yes", "no", "at", None):
            self.assertIn(kind, kinds)

    def test_cuts_makes_and_returns_with_a_cut(self):
        drawer = Drawer(124)
        pool = [one for name in HOUSES for one in known_house(name).routines.values()]
        changed = [other for one in pool for other in variants(one, drawer)]
        for number in range(300):
            grove = drawn_grove(drawer, "ab", 2 + number % 7)
            self.check(grove, drawer.random.choice(changed), drawer.word("ab", 6))

    def test_histories(self):
        """Many calls, on a tree and on a grove side by side."""
        for name in HOUSES:
            house = known_house(name)
            drawer = Drawer(125)
            grove, tree = Grove("cab", {"A": (False, False, {})}, "A"), Tree.of("cab", [])
            for _ in range(120):
                wish, word = drawer.random.choice(list(house.routines)), drawer.word("cab", 4)
                trace = play(tree, house.routines[wish], word)
                answer, kind, grove = grove.call(house.routines[wish], word)
                tree = trace.tree
                self.assertEqual((answer, kind, grove.unfolded()), (trace.answer, trace.kind, tree))

    def test_one_name_at_many_places(self):
        grove = full("ab", 12)
        answer, kind, behind = grove.call(STRIKE, "ab" * 6)
        self.assertEqual((answer, kind, behind.many, behind.size, grove.many), ("yes", None, 4095, 8190, 4096))
        self.assertEqual((behind.has("ab" * 6), behind.has("ab" * 5 + "aa"), behind.rank("ab" * 6)), (False, True, 1365))
        _, _, again = behind.call(STRIKE, "ab" * 5 + "aa")
        self.assertEqual((again.size, again.has("ab" * 5 + "a"), again.below("ab" * 5)), (8188, False, "b"))
        cut_all = Routine([("stop",)], [("cut",), ("return", "yes")], [])
        self.assertEqual([cut.size for cut in (grove.call(cut_all, "b")[2], grove.call(cut_all, "")[2])], [4096, 8191])

    def test_great_groves(self):
        grove = full(ALPHABET, 100)
        word = "az" * 50
        rank = grove.rank(word)
        answer, kind, less = grove.call(STRIKE, word)
        self.assertEqual((answer, kind, grove.many - less.many, less.rank(word)), ("yes", None, 1, rank))
        self.assertEqual(less.word_of(rank), grove.word_of(rank + 1))
        for _ in range(5):
            answer, kind, less = less.call(PUT, "ab" * 100)
        self.assertEqual((answer, kind, less.many), ("no", None, grove.many))
        self.assertEqual(less.begins("ab" * 50), 2)
        self.assertEqual(less.call(HAS, "ab" * 100)[0], "yes")
        long = known_house("kept").routines["strike"]
        self.assertEqual(less.call(long, "ab" * 100)[2].size, grove.size - 1)

    def test_two_hundred_letters(self):
        leaf = Grove("ab", {"A": (False, False, {})}, "A")
        answer, kind, grove = leaf.call(PUT, "ab" * 100)
        self.assertEqual((answer, kind, grove.size, len(grove.rules)), ("yes", None, 201, 201))
        self.assertEqual(grove.call(STRIKE, "ab" * 100)[2].size, 1)
        self.assert_error(BadWord, {"number": 0}, leaf.call, PUT, "a" * 201)

    def test_too_many_rules(self):
        # A way of 100 letters with all other names beside it.
        for others, many in ((899, 1000), (900, 1001)):
            names = [capital(number) for number in range(others)]
            rules = {name: (True, False, {"a": names[at - 1]} if at % 150 else {}) for at, name in enumerate(names)}
            tops = [name for at, name in enumerate(names) if at % 150 == 149 or at == others - 1]
            rules["ROOT"] = (False, False, dict(zip("cdefghij", tops)))
            grove = Grove(ALPHABET, rules, "ROOT")
            self.assertEqual(len(rules), others + 1)
            if many == 1000:
                answer, kind, behind = grove.call(PUT, "a" * 100)
                self.assertEqual((answer, kind, len(behind.rules)), ("yes", None, 1000))
                self.assertEqual(behind.call(STRIKE, "a" * 100)[2].size, grove.size)
            else:
                self.assert_error(TooMany, {"what": "rules", "many": 1001, "most": 1000}, grove.call, PUT, "a" * 100)
                self.assertEqual(grove.call(PUT, "a" * 99)[2].many, grove.many + 1)
                self.assertEqual(grove.call(HAS, "a" * 100)[0], "no")

    def test_a_way_that_is_not_gone_counts(self):
        # Each place of the way has a name of its own, also where the call stays at the root.
        chain = {capital(level): (True, False, {letter: capital(level - 1) for letter in "ab"} if level else {})
                 for level in range(200)}
        grove = Grove("ab", chain, capital(199))
        stay = Routine([("stop",)], [], [])
        behind = grove.call(stay, "a" * 199)[2]
        self.assertEqual((len(behind.rules), behind.size), (200 + 199, grove.size))

    def test_equal_calls_return_equal_results(self):
        drawer = Drawer(126)
        for _ in range(60):
            grove = drawn_grove(drawer, "ab", 6)
            again = Grove("ab", grove.rules, grove.root)
            routine, word = drawer.routine(5), drawer.word("ab", 4)
            one, other = grove.call(routine, word), again.call(routine, word)
            self.assertEqual(one[:2], other[:2])
            self.assertEqual((one[2].rules, one[2].root), (other[2].rules, other[2].root))
        self.assertEqual(Grove.__module__, "lettertrees.groves")
        for name in ("rules", "has", "row", "below", "begins", "rank", "word_of", "unfolded", "call"):
            self.assertIn(name, vars(Grove))

    def test_each_small_tree_and_word(self):
        """All trees of a few places as groves, each place with a name of its own."""
        tree_rows = [rows for many in (1, 2, 3) for rows in itertools.combinations(["a", "b", "aa", "ab"], many - 1)]
        for places in tree_rows:
            if all(len(place) == 1 or place[0] in places for place in places):
                names = {place: capital(number) for number, place in enumerate(("",) + places)}
                rules = {name: (place != "", False, {one[-1]: names[one] for one in places if one[:-1] == place})
                         for place, name in names.items()}
                grove = Grove("ab", rules, "A")
                for routine in (PUT, STRIKE, HAS):
                    for word in all_words("ab", 3):
                        self.check(grove, routine, word)


if __name__ == "__main__":
    unittest.main()
