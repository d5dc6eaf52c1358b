"""Promise [18]: two calls at a time."""

import itertools
import unittest

from lettertrees.errors import BadLock, BadWish, TooMany
from lettertrees.houses import known_house
from lettertrees.meets import Clash, Safe, is_clash, meets, weakest
from lettertrees.plays import woven
from lettertrees.routines import Routine
from lettertrees.rules import Rule, known_rule
from lettertrees.trees import Tree
from tests.changing import right_ones
from tests.drawing import Drawer
from tests.searching import KINDS, NAMES, drawn_rule, small_trees, variants
from tests.support import TreesCase, odd_values
from tests.test_tables import MANY
from tests.weaving import ORDERS, all_woven, is_held, is_line, is_one_after_the_other, plain_clashes, word_pairs

HOUSES = ("up", "kept", "joined", "lazy")
WISHES = ("has", "put", "strike")
PLAIN, JOINED, BARE, FREE = [known_rule(name) for name in NAMES]
UP, KEPT, LAZY = known_house("up"), known_house("kept"), known_house("lazy")
HAS, PUT, STRIKE = [UP.routines[wish] for wish in WISHES]
KEPT_STRIKE, LAZY_STRIKE = KEPT.routines["strike"], LAZY.routines["strike"]
# It carries what it saw at a place to the word's own: where it has made the place nothing can be marked.
CARRY = Routine.read("down:\n    if not next:\n        make\n        x = true\nturn:\n    if marked and not x:\n"
                     "        return no\n    mark\n    return yes")
# It cuts off what is bare where it turns, above the word's own place.
STOP_STRIKE = Routine.read("down:\n    if marked and not p:\n        keep\nturn:\n    if not at end or not marked:\n"
                           "        return no\n    unmark\n    return yes")


def few(trees, drawer, most):
    """Of each list of trees at most so many."""
    return [same if len(same) <= most else drawer.random.sample(same, most) for same in trees]


class MeetsCase(TreesCase):
    def check(self, one, wish, other, second, rule, trees, longest=2, orders=ORDERS):
        """The sizes of the least clashes by orders, after a plain search through these trees."""
        small = plain_clashes(one, wish, other, second, rule, trees, longest)
        out = {}
        for order in orders:
            told = meets(one, wish, other, second, rule, order)
            about = (one.text(), wish, other.text(), second, rule.root, rule.others, order, small)
            self.assertEqual((told.one, told.wish, told.other, told.second, told.rule, told.order),
                             (one, wish, other, second, rule, order))
            if isinstance(told, Safe):
                self.assertIsNone(small[order], about)
                out[order] = None
                continue
            self.assertIs(type(told), Clash)
            self.assertTrue(rule.keeps(told.tree))
            self.assertEqual([type(told.pair)] + [type(word) for word in told.pair], [tuple, str, str])
            self.assertIs(is_clash(told), True, (about, told.tree.rows, told.pair, told.weaving))
            done = woven(told.tree, one, told.pair[0], other, told.pair[1], told.weaving)
            self.assertEqual(done.order, told.weaving)
            self.assertFalse(is_one_after_the_other(rule, (wish, second), told.tree, told.pair, done))
            if small[order] is None:
                self.assertGreater(told.tree.size, 2)
            else:
                self.assertLessEqual(told.tree.size, small[order], about)
            out[order] = told.tree.size
        return out, small


class MeetsTest(MeetsCase):
    def test_the_examples_of_the_document(self):
        self.assertEqual([weakest(PUT, "put", PUT, "put", PLAIN), weakest(HAS, "has", STRIKE, "strike", PLAIN),
                          weakest(STRIKE, "strike", PUT, "put", PLAIN)], ["free", "free", "held"])
        clash = meets(STRIKE, "strike", PUT, "put", PLAIN)
        self.assertEqual([clash.tree.size, is_clash(clash), clash.order], [2, True, "free"])

    def test_known_houses_in_each_order(self):
        drawer = Drawer(131)
        held = []
        for name in HOUSES:
            house = known_house(name)
            trees = few(small_trees(house.rule, "ab", 3), drawer, 40)
            for wish, second in itertools.product(WISHES, WISHES):
                one, other = house.routines[wish], house.routines[second]
                told, small = self.check(one, wish, other, second, house.rule, trees)
                self.assertEqual(told, small)
                first = [order for order in ORDERS if told[order] is None]
                self.assertEqual(weakest(one, wish, other, second, house.rule), first[0])
                if first[0] != "free":
                    held.append((name, wish, second, first[0]))
        self.assertEqual(held, [("up", "put", "strike", "held"), ("up", "strike", "put", "held"),
                                ("kept", "put", "strike", "held"), ("kept", "strike", "put", "held"),
                                ("kept", "strike", "strike", "held"), ("joined", "put", "strike", "held"),
                                ("joined", "strike", "put", "held")])

    def test_one_statement_otherwise(self):
        drawer = Drawer(132)
        found = {}
        for number in range(90):
            house = known_house(HOUSES[number % 4])
            wish, second = drawer.random.choice(WISHES), drawer.random.choice(WISHES)
            one, other = house.routines[wish], house.routines[second]
            one = drawer.random.choice(variants(one, drawer))
            if number % 3 == 0:
                other = drawer.random.choice(variants(other, drawer))
            told, small = self.check(one, wish, other, second, house.rule, small_trees(house.rule, "ab", 2))
            for order in ORDERS:
                if told[order] is not None and told[order] <= 2:
                    self.assertEqual(told[order], small[order])
                found[told[order]] = found.get(told[order], 0) + 1
        for size in (None, 1, 2, 3):
            self.assertGreater(found.get(size, 0), 3, found)

    def test_routines_that_are_right_alone(self):
        """Known ones with more statements, by flags and variables, too: one behind the other they do well."""
        drawer = Drawer(133)
        found = {}
        for number in range(60):
            house = known_house(HOUSES[number % 4])
            rule = drawer.random.choice([house.rule, house.rule, FREE])
            wish, second = drawer.random.choice(WISHES), drawer.random.choice(WISHES)
            routines = {**house.routines, "put": CARRY} if number % 3 == 0 else house.routines
            names = drawer.random.choice(["px", "x", "xy", "p", ""])
            one = right_ones(routines[wish], rule, wish, 13300 + number, 12, names, 150)[-1]
            other = right_ones(routines[second], rule, second, 13400 + number, 12, names, 150)[-1]
            trees = few(small_trees(rule, "ab", 3 if rule != FREE else 2), drawer, 12)
            told, _ = self.check(one, wish, other, second, rule, trees)
            key = tuple(told[order] is None for order in ORDERS)
            found[key] = found.get(key, 0) + 1
            for weaker, stronger in (("free", "line"), ("line", "held")):
                self.assertLessEqual(told[weaker] or 99, told[stronger] or 99)
        self.assertGreater(found[(True, True, True)], 10)
        self.assertGreater(found[(False, False, True)], 3)

    def test_drawn_routines_and_rules(self):
        drawer = Drawer(134)
        for number in range(60):
            rule = drawn_rule(drawer)
            one = Drawer(13500 + number, drawer.random.choice(["", "p", "x", "xp"])).routine(2 + number % 6, 3)
            other = Drawer(13600 + number, drawer.random.choice(["", "p", "x", "xp"])).routine(2 + number % 6, 3)
            trees = few(small_trees(rule, "abc", 2), drawer, 60)
            wish, second = drawer.random.choice(WISHES), drawer.random.choice(WISHES)
            self.check(one, wish, other, second, rule, trees)

    def test_a_put_that_carries_what_it_saw(self):
        trees = small_trees(PLAIN, "ab", 3)
        self.assertEqual(weakest(CARRY, "put", CARRY, "put", PLAIN), "line")
        self.assertEqual(weakest(CARRY, "put", PUT, "put", PLAIN), "line")
        self.assertEqual(weakest(CARRY, "put", HAS, "has", PLAIN), "free")
        self.assertEqual(weakest(CARRY, "put", STRIKE, "strike", PLAIN), "held")
        told, small = self.check(CARRY, "put", CARRY, "put", PLAIN, trees)
        self.assertEqual(told, small)
        self.assertEqual(told, {"free": 1, "line": None, "held": None})
        told, small = self.check(CARRY, "put", PUT, "put", PLAIN, trees)
        self.assertEqual(told, small)

    def test_routines_that_use_flags_for_each_other(self):
        # The one flags the root as it goes down, and takes the flag off at the word's place or on its way up.
        flags = Rule([(mark, False, many) for mark in (False, True) for many in range(3)], PLAIN.others)
        locks = Routine.read("down:\n    if at root:\n        f = true\nturn:\n    if at root:\n        f = false\n"
                             "    if at end and marked:\n        x = true\n    if at root and x:\n        return yes\n"
                             "    if at root:\n        return no\nup:\n    if at root and x:\n        f = false\n"
                             "        return yes\n    if at root:\n        f = false\n        return no")
        trips = Routine.read("down:\n    if at root and f:\n        return node\nturn:\n    if at root and f:\n"
                             "        return node\n    if at end and marked:\n        return yes\n    return no")
        for one, other, order in ((locks, HAS, "free"), (HAS, trips, "free"), (trips, trips, "free"), (locks, locks, "free"),
                                  (locks, trips, "held"), (trips, locks, "held")):
            self.assertEqual(weakest(one, "has", other, "has", flags), order)
        told, small = self.check(locks, "has", trips, "has", flags, small_trees(flags, "ab", 3))
        self.assertEqual(told, small)
        self.assertEqual(told["line"], 2)

    def test_strikes_that_go_up_cut_at_a_kept_place_or_end_at_it(self):
        trees = small_trees(PLAIN, "ab", 3)
        for one, other in itertools.product((STRIKE, KEPT_STRIKE), repeat=2):
            told, small = self.check(one, "strike", other, "strike", PLAIN, trees)
            self.assertEqual(told, small)
        for one, other in itertools.product((STRIKE, KEPT_STRIKE, LAZY_STRIKE, STOP_STRIKE), repeat=2):
            self.check(one, "strike", other, "strike", BARE, few(small_trees(BARE, "ab", 3), Drawer(135), 30))
            self.check(one, "strike", PUT, "put", BARE, few(small_trees(BARE, "ab", 3), Drawer(136), 30))

    def test_great_trees_and_long_words(self):
        """Drawn weavings of calls that are safe."""
        drawer = Drawer(140)
        many = 0
        for number in range(40):
            house = known_house(HOUSES[number % 3])
            wish, second = drawer.random.choice(WISHES), drawer.random.choice(WISHES)
            routines = {**house.routines, "put": CARRY} if number % 4 == 0 else house.routines
            one = right_ones(routines[wish], house.rule, wish, 14000 + number, 10, "px", 100)[-1]
            other = routines[second]
            order = weakest(one, wish, other, second, house.rule)
            for _ in range(60 if order else 0):
                tree = house.rule.tree_of("abc", sorted({drawer.word("ab", 5) for _ in range(5)}))
                word = drawer.word("ab", 6)
                pair = (word, drawer.random.choice([word, drawer.word("ab", 6), word[:2], word + drawer.word("ab", 2)]))
                signs = self.drawn_weaving(drawer, tree, one, pair[0], other, pair[1])
                if order == "free" or (is_line(tree, one, pair[0], other, pair[1], signs) if order == "line"
                                       else is_held(signs)):
                    many += 1
                    done = woven(tree, one, pair[0], other, pair[1], signs)
                    self.assertTrue(is_one_after_the_other(house.rule, (wish, second), tree, pair, done),
                                    (one.text(), other.text(), tree.rows, pair, signs))
        self.assertGreater(many, 1000)

    def drawn_weaving(self, drawer, tree, one, word, other, second):
        """Any weaving of both calls, those that stay with one call for long among them."""
        signs, stays = "", drawer.random.random()
        while True:
            rest = woven(tree, one, word, other, second, signs).order[len(signs):]
            if rest == "":
                return signs
            live = [sign for sign in "ab" if sign in rest]
            last = signs[-1:]
            signs += last if last in live and last and drawer.random.random() < stays else drawer.random.choice(live)

    def test_pairs_of_words(self):
        """Both the same, one along the other, beside it, and the empty word."""
        seen = set()
        drawer = Drawer(137)
        for number in range(200):
            house = known_house(HOUSES[number % 3])
            wish, second = drawer.random.choice(WISHES), drawer.random.choice(WISHES)
            one = drawer.random.choice(variants(house.routines[wish], drawer))
            told = meets(one, wish, house.routines[second], second, house.rule)
            if isinstance(told, Clash):
                word, other = told.pair
                self.assertTrue(is_clash(told))
                seen.add("same" if word == other else "along" if word.startswith(other) or other.startswith(word)
                         else "beside")
        self.assertEqual(seen, {"same", "along"} | (seen & {"beside"}))
        # Wrong only where the ways part: it takes no child beside the next one.
        alone = Routine.read("down:\n    if not next:\n        make\n    if not at root and others == 1:\n"
                             "        return node\nturn:\n    if marked:\n        return no\n    mark\n    return yes")
        thin = Rule([(False, False, 0), (False, False, 1)], [(False, False, 1), (True, False, 0), (True, False, 1)])
        told = meets(alone, "put", HAS, "has", thin)
        self.assertIs(type(told), Clash)
        forked = Rule([(False, False, 1)], [(True, False, 0), (True, False, 1), (False, False, 1), (True, False, 2)])
        cuts = Routine.read("turn:\n    if not at end or not marked:\n        return no\n    if others == 1:\n"
                            "        return node\n    unmark\n    return yes")
        self.assertIs(type(meets(cuts, "strike", HAS, "has", forked)), Clash)

    def test_clashes_beside_each_other(self):
        # Two puts of words that part: each sees the other's child only if it is there already.
        shy = Routine.read("down:\n    if not next and others == 1 and not at root:\n        f = true\n"
                           "    if not next:\n        make\nturn:\n    if marked:\n        return no\n    mark\n    return yes")
        told = meets(shy, "put", shy, "put", Rule(PLAIN.root, PLAIN.others + ((True, True, 2),)))
        self.assertIs(type(told), Clash)
        self.assertIs(is_clash(told), True)
        free = Rule(PLAIN.root, list(PLAIN.others) + [(mark, True, 2) for mark in (False, True)])
        told, small = self.check(shy, "put", shy, "put", free, few(small_trees(free, "abc", 3), Drawer(138), 30), 3)
        self.assertEqual(set(told.values()), {None})

    def test_order_left_out_is_free(self):
        told = meets(STRIKE, "strike", PUT, "put", PLAIN)
        again = meets(STRIKE, "strike", PUT, "put", PLAIN, "free")
        self.assertEqual((told.order, told.tree, told.pair, told.weaving), ("free", again.tree, again.pair, again.weaving))
        self.assertEqual(meets(PUT, "put", PUT, "put", PLAIN).order, "free")

    def test_rules_under_which_no_tree_is(self):
        wrong = Routine([], [], [])
        for rule in (Rule([], []), Rule([], KINDS), Rule([(False, False, 1)], [(True, True, 1)])):
            for order in ORDERS:
                self.assertIs(type(meets(wrong, "has", wrong, "put", rule, order)), Safe)
            self.assertEqual(weakest(wrong, "has", wrong, "put", rule), "free")

    def test_wrong_routines_clash_in_each_order(self):
        says_no = Routine([], [("return", "no")], [])
        for order in ORDERS:
            told = meets(says_no, "has", HAS, "has", PLAIN, order)
            self.assertEqual((type(told), told.tree.size, is_clash(told)), (Clash, 1, True))
        self.assertIsNone(weakest(says_no, "has", HAS, "has", PLAIN))
        self.assertIsNone(weakest(HAS, "has", says_no, "has", PLAIN))

    def test_long_ways(self):
        # The one marks each place with a flag that the other one counts; so a clash needs some letters.
        count = ("down:\n    if f and x and y:\n        return node\n    if f and x:\n        x = false\n        y = true\n"
                 "    elif f and y:\n        x = true\n    elif f:\n        x = true\nturn:\n    if at end and marked:\n"
                 "        return yes\n    return no")
        sets = Routine.read("down:\n    f = true\nturn:\n    f = false\n    if at root:\n        return no\n"
                            "    if at end and marked:\n        x = true\nup:\n    f = false\n"
                            "    if at root and x:\n        return yes\n    if at root:\n        return no")
        chain = Rule([(False, False, 1)], [(False, False, 1), (True, False, 0), (True, False, 1)])
        self.assertEqual(weakest(sets, "has", Routine.read(count), "has", chain), "held")
        for order in ("free", "line"):
            told = meets(sets, "has", Routine.read(count), "has", chain, order)
            self.assertEqual((is_clash(told), told.tree.size), (True, 5))

    def test_errors_in_their_order(self):
        for name in odd_values() + ["begins", "longest", "hass"]:
            self.assert_error(BadWish, {"name": name}, meets, MANY, name, MANY, "hass", FREE, "none")
            self.assert_error(BadWish, {"name": name}, meets, MANY, "has", MANY, name, FREE, "none")
            self.assert_error(BadWish, {"name": name}, weakest, MANY, name, MANY, "hass", FREE)
            self.assert_error(BadWish, {"name": name}, weakest, MANY, "put", MANY, name, FREE)
        for order in odd_values() + ["Free", "lines", "hel"]:
            self.assert_error(BadLock, {"order": order}, meets, MANY, "has", HAS, "has", FREE, order)
        fields = {"what": "tables", "many": 2001, "most": 2000}
        for pair in ((MANY, HAS), (HAS, MANY)):
            for order in ORDERS:
                self.assert_error(TooMany, fields, meets, pair[0], "has", pair[1], "has", FREE, order)
            self.assert_error(TooMany, fields, weakest, pair[0], "has", pair[1], "has", FREE)

    def test_equal_calls_return_equal_results(self):
        drawer = Drawer(139)
        for number in range(30):
            one, other, rule = drawer.routine(4), drawer.routine(4), drawn_rule(drawer)
            before = (one.text(), other.text(), rule.root, rule.others)
            order = ORDERS[number % 3]
            told, again = [meets(routine, "put", other, "has", rule, order)
                           for routine in (one, Routine.read(one.text()))]
            self.assertEqual(type(told), type(again))
            if isinstance(told, Clash):
                self.assertEqual((told.tree, told.pair, told.weaving), (again.tree, again.pair, again.weaving))
            self.assertEqual((one.text(), other.text(), rule.root, rule.others), before)
        for told in (meets, is_clash, weakest, Safe, Clash):
            self.assertEqual(told.__module__, "lettertrees.meets")

    def test_what_was_given_is_kept(self):
        safe = Safe(1, 2, 3, 4, 5, 6)
        self.assertEqual([safe.one, safe.wish, safe.other, safe.second, safe.rule, safe.order], [1, 2, 3, 4, 5, 6])
        clash = Clash(1, 2, 3, 4, 5, 6, 7, (8, 9), 10)
        self.assertEqual([clash.one, clash.wish, clash.other, clash.second, clash.rule, clash.order, clash.tree, clash.pair,
                          clash.weaving], [1, 2, 3, 4, 5, 6, 7, (8, 9), 10])


class IsClashTest(MeetsCase):
    def told(self, one, wish, other, second, rule, order, tree, pair, weaving):
        return is_clash(Clash(one, wish, other, second, rule, order, tree, pair, weaving))

    def test_all_weavings_of_small_trees(self):
        """Each weaving in each order, told plainly: for held by its signs, for line by the places."""
        for one, wish, other, second in ((STRIKE, "strike", PUT, "put"), (KEPT_STRIKE, "strike", STRIKE, "strike"),
                                         (CARRY, "put", CARRY, "put"), (PUT, "put", KEPT_STRIKE, "strike")):
            seen = {}
            for words in ([], ["a"], ["a", "aa"], ["aa"], ["a", "b"]):
                tree = Tree.of("ab", words)
                for pair in word_pairs(2):
                    for done in all_woven(tree, one, pair[0], other, pair[1]):
                        bad = not is_one_after_the_other(PLAIN, (wish, second), tree, pair, done)
                        for order in ORDERS:
                            signs = "".join(sorted(done.order))
                            let = {"free": True, "held": done.order in (signs, signs[::-1]),
                                   "line": is_line(tree, one, pair[0], other, pair[1], done.order)}[order]
                            told = self.told(one, wish, other, second, PLAIN, order, tree, pair, done.order)
                            self.assertIs(told, bad and let, (order, done.steps))
                            seen[(order, told)] = seen.get((order, told), 0) + 1
            self.assertGreater(seen[("free", True)], 0)
            self.assertNotIn(("held", True), seen)

    def test_first_at_all_places_or_at_none(self):
        """A place that was cut off is the same one for a call that goes on in it."""
        tree = Tree.of("ab", ["a"])
        strike = Routine.read(STRIKE.text().replace("return yes", "return node"))
        for weaving, line in (("aaabb", True), ("aabab", True), ("ababa", True), ("babaa", True), ("bbaaa", True),
                              ("abbaa", False), ("baaba", False), ("baaab", False)):
            self.assertEqual(woven(tree, strike, "a", PUT, "a", weaving).order, weaving)
            self.assertIs(self.told(strike, "strike", PUT, "put", PLAIN, "line", tree, ("a", "a"), weaving), line, weaving)
            self.assertIs(self.told(strike, "strike", PUT, "put", PLAIN, "free", tree, ("a", "a"), weaving), True)

    def test_a_child_that_is_made_where_one_was_cut_off(self):
        """Another place: either call may be first there."""
        # a cuts where it turns, at the root; b makes a child there and goes into it, a is done.
        cut = Routine.read("down:\n    if at root:\n        stop\nturn:\n    if next:\n        cut\n    return node")
        tree = Tree.of("ab", ["aa"])
        self.assertIs(self.told(cut, "strike", PUT, "put", PLAIN, "line", tree, ("aa", "aa"), "abbb"), True)
        self.assertIs(self.told(cut, "strike", PUT, "put", PLAIN, "line", tree, ("aa", "aa"), "babb"), True)

    def clash(self):
        return meets(STRIKE, "strike", PUT, "put", PLAIN)

    def with_field(self, **fields):
        clash = self.clash()
        names = ("one", "wish", "other", "second", "rule", "order", "tree", "pair", "weaving")
        return is_clash(Clash(*[fields.get(name, getattr(clash, name)) for name in names]))

    def test_trees_that_do_not_keep_the_rule(self):
        self.assertIs(self.with_field(), True)
        bare = Tree("ab", [("", False, False), ("a", True, False), ("b", False, False)])
        self.assertIs(self.with_field(tree=bare), False)
        self.assertIs(self.with_field(rule=Rule([], [])), False)

    def test_words_that_are_none(self):
        word, second = self.clash().pair
        for value in odd_values() + ["e", "a" * 201]:
            self.assertIs(self.with_field(pair=(value, second)), False)
            self.assertIs(self.with_field(pair=(word, value)), False)

    def test_weavings_that_are_none(self):
        weaving = self.clash().weaving
        for value in odd_values() + [weaving[:-1], weaving[:2], weaving + "a", weaving + "b", "", "aaabb", "bbaaa",
                                     weaving.upper(), weaving.replace("b", "c"), list(weaving), tuple(weaving)]:
            self.assertIs(self.with_field(weaving=value), False, value)

    def test_out_of_the_order(self):
        self.assertEqual(self.clash().weaving, "aabab")
        self.assertIs(self.with_field(order="line"), True)
        self.assertIs(self.with_field(order="held"), False)
        clash = meets(CARRY, "put", CARRY, "put", PLAIN)
        fields = (CARRY, "put", CARRY, "put", PLAIN)
        self.assertIs(self.told(*fields, "free", clash.tree, clash.pair, clash.weaving), True)
        self.assertIs(self.told(*fields, "line", clash.tree, clash.pair, clash.weaving), False)
        self.assertIs(self.told(*fields, "held", clash.tree, clash.pair, clash.weaving), False)
        says_no = Routine([], [("return", "no")], [])
        tree = Tree.of("ab", ["a"])
        for weaving, held in (("aabb", True), ("bbaa", True), ("abab", False), ("baab", False), ("abba", False)):
            for order in ORDERS:
                told = self.told(says_no, "has", HAS, "has", PLAIN, order, tree, ("a", "a"), weaving)
                line = weaving in ("aabb", "bbaa", "abab")
                self.assertIs(told, order == "free" or (held if order == "held" else line))

    def test_as_if_one_came_after_the_other(self):
        tree = Tree.of("ab", ["a"])
        for weaving in ("aaabb", "bbaaa", "ababa", "babaa", "aabba"):
            done = woven(tree, STRIKE, "a", PUT, "a", weaving)
            right = is_one_after_the_other(PLAIN, ("strike", "put"), tree, ("a", "a"), done)
            self.assertIs(self.told(STRIKE, "strike", PUT, "put", PLAIN, "free", tree, ("a", "a"), weaving),
                          not right and done.order == weaving)
        # The same weaving shows nothing for other words, and nothing for other wishes that are met.
        self.assertIs(self.told(STRIKE, "strike", PUT, "put", PLAIN, "free", tree, ("b", "b"), "abb"), False)
        self.assertIs(self.told(HAS, "has", HAS, "has", PLAIN, "free", tree, ("a", "b"), "aab"), False)
        self.assertIs(self.told(HAS, "put", HAS, "has", PLAIN, "free", tree, ("a", "b"), "aab"), True)
        self.assertIs(self.told(HAS, "has", HAS, "strike", PLAIN, "free", tree, ("a", "a"), "aabb"), True)


if __name__ == "__main__":
    unittest.main()
