"""Promise [18] from within: all that two calls may do on one told tree, against all weavings of them."""

import itertools
import unittest

from lettertrees.belows import Fork, Shared
from lettertrees.cells import cells
from lettertrees.joints import links_of
from lettertrees.meeting import Meeting
from lettertrees.routines import Routine
from lettertrees.rules import Rule, kind_of
from lettertrees.trees import Tree, shared
from tests.drawing import Drawer
from tests.searching import KINDS, variants
from tests.test_histories import HOUSES
from tests.weaving import ORDERS, all_woven, is_held, is_line, word_pairs


def cell_at(tree, pair, depth):
    """The cell of a place of both ways, what hangs beside both being told."""
    place = pair[0][:depth]
    if not tree.has(place):
        return None
    ahead = [word[depth:depth + 1] for word in pair]
    beside = [letter for letter in tree.below(place) if letter not in ahead]
    words = any(kept.startswith(place + letter) for kept in tree.words() for letter in beside)
    return tree.row(place)[1:] + (min(2, len(beside)), words)


def told_outcomes(meeting, tree, pair):
    """The set of all outcomes that come up along both ways: "bad", or (answers, behind)."""
    common = shared(*pair)
    groups = []
    for single, word in zip(meeting.joints.singles, pair):
        rests = [None]
        for cell in cells(tree, word)[:common:-1]:
            rests = {rest for behind in rests for rest in single.above_cell(cell, behind)}
        groups.append(rests if len(word) > common else [None])
    belows = [Fork(singles, meeting.rule) for singles in itertools.product(*groups)]
    belows = [below for below in belows if below.link != "new ab"]
    for depth in range(common, 0, -1):
        rests = {rest for below in belows for _, rest in meeting.rests(False, cell_at(tree, pair, depth), below)}
        belows = [Shared(rest, meeting.rule) for rest in rests]
    root = cell_at(tree, pair, 0)
    out = set()
    for below in belows:
        for option in meeting.joints.options(True, root[:3], below):
            answers = tuple(meeting.answers_of(option[1]))
            if None in answers or "bad" in answers:
                out.add("bad")
            else:
                before = below.before(root[0], root[3])
                out.add((answers, meeting.joints.behind(True, root, below, before, option)))
    return out


def plain_outcome(rule, tree, pair, done):
    if done.kinds != (None, None) or not set(done.answers) <= {"yes", "no"}:
        return "bad"
    before, after = [{word for word in one.words() if word not in pair} for one in (tree, done.tree)]
    kept = [word in done.tree.words() for word in pair]
    return done.answers, (kept[0], kept[1], before == after and rule.keeps(done.tree))


class OutcomesTest(unittest.TestCase):
    def rule_for(self, tree, drawer):
        """A rule that the tree keeps."""
        held = [kind_of(tree, row[0]) for row in tree.rows[1:]]
        low = [kind for kind in KINDS if kind in held or drawer.random.random() < 0.6]
        return Rule([kind for kind in KINDS if kind == kind_of(tree, "") or drawer.random.random() < 0.6], low)

    def check(self, one, other, drawer, letters="ab", size=6, longest=3):
        """How many outcomes there are on a drawn tree, with drawn words."""
        tree = drawer.tree(letters, size)
        pair = drawer.random.choice([(drawer.word(letters, longest), drawer.word(letters, longest)),
                                     drawer.random.choice(word_pairs(longest))])
        return self.check_told(one, other, tree, pair, self.rule_for(tree, drawer))

    def check_told(self, one, other, tree, pair, rule):
        outcomes = {order: set() for order in ORDERS}
        for number, done in enumerate(all_woven(tree, one, pair[0], other, pair[1])):
            if number > 3000:
                return 0
            outcome = plain_outcome(rule, tree, pair, done)
            outcomes["free"].add(outcome)
            if is_line(tree, one, pair[0], other, pair[1], done.order):
                outcomes["line"].add(outcome)
            if is_held(done.order):
                outcomes["held"].add(outcome)
        for order in ORDERS:
            meeting = Meeting(one, "has", other, "has", rule, order)
            self.assertEqual(told_outcomes(meeting, tree, pair), outcomes[order],
                             (order, one.text(), other.text(), tree.rows, pair, rule.root, rule.others))
        return len(outcomes["free"])

    def test_told_routines_on_small_trees(self):
        """Each of them leaves something behind for the other ones, in places that they make and cut off."""
        make = "down:\n    if not next:\n        make\n"
        end = "    if at root:\n        if x:\n            return yes\n        return no\n"
        texts = [
            make + "turn:\n    f = true\n" + end + "up:\n    f = true\n    if next:\n        cut\n" + end,
            make + "    if f:\n        x = true\nturn:\n    if f:\n        x = true\n" + end + "up:\n" + end,
            make + "    mark\nturn:\n    mark\n" + end + "up:\n" + end,
            make + "    if marked:\n        x = true\n    mark\nturn:\n" + end + "up:\n    if next and at root:\n"
            "        cut\n" + end,
            make + "    if at root:\n        stop\nturn:\n    if next:\n        x = true\n" + end + "up:\n" + end,
            "down:\n    if at root:\n        stop\nturn:\n    if next:\n        cut\n        x = true\n" + end,
            "down:\n    if at root:\n        keep\nturn:\n    f = true\n    if p and not at p:\n        return no, cut\n" + end,
            make + "    if f:\n        x = true\n    f = true\nturn:\n    f = true\n" + end + "up:\n    unmark\n"
            "    if next and not x:\n        cut\n" + end,
            "turn:\n    if next:\n        cut\n    if not at end:\n        x = true\n" + end + "up:\n    if not next:\n"
            "        x = true\n" + end,
        ]
        drawer = Drawer(155)
        routines = [Routine.read(text.rstrip("\n")) for text in texts]
        many = {}
        for one, other in itertools.product(routines, routines):
            for number in range(18):
                tree = drawer.tree("ab", drawer.random.choice([1, 2, 4]))
                pair = drawer.random.choice(word_pairs(2))
                if number > 10:
                    # The ways part below the place that is cut off, where more hangs beside.
                    tree, pair = drawer.tree("abc", 7), drawer.random.choice([("aa", "ab"), ("aa", "a"), ("a", "aa")])
                # Trees whose flags are all off tell best who has been there.
                if drawer.random.random() < 0.7:
                    tree = Tree(tree.letters, [(place, mark, False) for place, mark, _ in tree.rows])
                told = self.check_told(one, other, tree, pair, self.rule_for(tree, drawer))
                many[told] = many.get(told, 0) + 1
        for number in (1, 2, 3):
            self.assertGreater(many.get(number, 0), 10, many)

    def test_drawn_routines(self):
        drawer = Drawer(151)
        for number in range(300):
            one, other = [Drawer(seed + number, drawer.random.choice(["", "p", "x", "xp", "xy"])).routine(2 + number % 7, 3)
                          for seed in (15100, 15600)]
            self.check(one, other, drawer)

    def test_known_routines_otherwise(self):
        drawer = Drawer(152)
        pool = [Routine.read(text) for _, texts in HOUSES.values() for text in texts.values()]
        pool += [other for one in pool for other in variants(one, drawer)]
        for _ in range(400):
            self.check(drawer.random.choice(pool), drawer.random.choice(pool), drawer, "ab", 5)

    def test_strikes_and_puts_that_leave_flags(self):
        """Cuts, children made anew, and flags that tell who was where."""
        drawer = Drawer(153)
        many = {}
        for _ in range(500):
            one, other = self.flag_routine(drawer), self.flag_routine(drawer)
            told = self.check(one, other, drawer, "ab", 5)
            many[min(told, 3)] = many.get(min(told, 3), 0) + 1
        for number in (1, 2, 3):
            self.assertGreater(many.get(number, 0), 5, many)

    def flag_routine(self, drawer):
        """A routine that always ends well: it goes down, perhaps up again, and says what it has met."""
        plain = ["f = true", "f = false", "x = true", "x = false", "if f:\n        x = true\n    else:\n        f = true",
                 "if x and not f:\n        f = true\n        x = false", "if f and next:\n        f = false",
                 "if others == 1:\n        f = true", "if marked:\n        x = true",
                 "if next:\n        x = true\n    else:\n        x = false"]
        down = ["if not next:\n        make", "if not next and f:\n        make", "keep", "if at root and f:\n        stop",
                "if x and f:\n        stop", "if not next:\n        make\n        x = true"]
        turn = ["if next:\n        cut", "if marked:\n        unmark\n    else:\n        mark", "mark", "keep",
                "if p and not at p:\n        return yes, cut", "if f and at end:\n        return yes"]
        up = ["if next and not f:\n        cut", "if next:\n        cut", "if f:\n        return yes",
              "if f:\n        x = true\n        f = false"]
        lines = []
        for name, own, end in (("down", down, None), ("turn", turn, "if at root:\n        if x:\n            return yes\n"
                                                      "        return no"),
                               ("up", up, "if at root:\n        if x:\n            return yes\n        return no")):
            body = drawer.random.sample(plain, drawer.random.randint(0, 2)) + drawer.random.sample(
                own, drawer.random.randint(0, 2))
            drawer.random.shuffle(body)
            body += [end] if end else []
            lines += [f"{name}:"] * bool(body) + ["    " + one for one in body]
        return Routine.read("\n".join(lines))

    def test_cuts_and_children_made_anew(self):
        """Routines that make the way, and cut it off again as they come up, by what they have met."""
        drawer = Drawer(154)
        many = {}
        for _ in range(400):
            one, other = self.cutting_routine(drawer), self.cutting_routine(drawer)
            told = self.check(one, other, drawer, "ab", drawer.random.choice([1, 2, 3, 5]))
            many[min(told, 3)] = many.get(min(told, 3), 0) + 1
        for number in (1, 2, 3):
            self.assertGreater(many.get(number, 0), 5, many)

    def cutting_routine(self, drawer):
        tests = ["x", "not x", "f", "not f", "others == 0", "at root", "not at root", "marked", "not marked", "true",
                 "(x and not f)", "(f or x)"]
        plain = ["f = true", "f = false", "x = true", "x = false", "if marked:\n        x = true", "if f:\n        x = true",
                 "if not next:\n        x = true", "if x:\n        f = true\n    else:\n        f = false"]
        marks = ["mark", "unmark"]
        end = "if at root:\n        if x:\n            return yes\n        return no"

        def some(statements, most):
            return drawer.random.sample(statements, drawer.random.randint(0, most))

        keeps = some([f"if {drawer.random.choice(tests[:10])}:\n        keep"], 1)
        down = some(plain, 1) + keeps + some(["if not next:\n        make", "if not next:\n        make\n        x = true",
                                              "if not next and not f:\n        make"], 1) + some(plain + marks[:1], 1)
        turn = some(plain + marks, 2) + some(["if next:\n        cut"] if not keeps else [
            "if p and not at p:\n        return yes, cut", "if p and not at p:\n        return no, cut"], 1) + [end]
        turn += some([f"if {drawer.random.choice(tests[:10])}:\n        return yes"], 1)
        up = some(plain + marks, 1) + [f"if next and {drawer.random.choice(tests)}:\n        cut"] + some(plain + marks, 1)
        lines = ["down:"] * bool(down) + ["    " + one for one in down] + ["turn:"] + ["    " + one for one in turn]
        return Routine.read("\n".join(lines + ["up:"] + ["    " + one for one in up + [end]]))


class LinksTest(unittest.TestCase):
    """Orders at the places go together, with one bar."""

    def goes_together(self, orders):
        """Whether steps can be done in these orders at places, the topmost one first, each call going down and up."""
        ahead = {sign: [depth for depth in range(len(orders))] for sign in "ab"}
        for sign in "ab":
            ups = [depth for depth in range(len(orders) - 1, -1, -1) if orders[depth].count(sign) > 1]
            ahead[sign] += ups
        left = list(orders)
        while any(left):
            turn = [sign for sign in "ab" if ahead[sign] and left[ahead[sign][0]][:1] == sign]
            if not turn:
                return False
            depth = ahead[turn[0]].pop(0)
            left[depth] = left[depth][1:]
        return True

    def test_against_plain_weaving(self):
        """Three places, all of both ways; the last one has steps down alone."""
        both = [order for many in (1, 2) for more in (1, 2)
                for order in {"".join(signs) for signs in itertools.permutations("a" * many + "b" * more)}]
        for low in ("ab", "ba"):
            for middle in both:
                for top in both:
                    # A call comes up to the top only from the middle.
                    if all(middle.count(sign) > 1 or top.count(sign) == 1 for sign in "ab"):
                        links = {link for one in links_of(low, "", False) for two in links_of(middle, one, True)
                                 for link in links_of(top, two, True)}
                        orders = [top, middle, low]
                        self.assertEqual("any" in links, self.goes_together(orders), orders)
                        first = {order[0] for order in orders}
                        self.assertEqual("line a" in links, self.goes_together(orders) and first == {"a"}, orders)
                        self.assertEqual("line b" in links, self.goes_together(orders) and first == {"b"}, orders)
                        self.assertEqual("ab" in links, all(sorted(order) == list(order) for order in orders), orders)
                        self.assertEqual("ba" in links, all(sorted(order, reverse=True) == list(order)
                                                            for order in orders), orders)


if __name__ == "__main__":
    unittest.main()
