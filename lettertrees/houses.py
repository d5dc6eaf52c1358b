"""Houses: routines that work on one tree, one call behind the other."""

from lettertrees.behind import all_kinds_behind
from lettertrees.closing import rests_above
from lettertrees.errors import BadName, NoPut, NotExact, TreesError
from lettertrees.outcomes import Outcomes
from lettertrees.parts import PLACE, tree_along, words_at
from lettertrees.plays import play
from lettertrees.right import judged
from lettertrees.routines import Routine
from lettertrees.rules import BARE, Rule, known_rule
from lettertrees.tables import tables
from lettertrees.texts import texts_of
from lettertrees.trees import ALPHABET, Tree
from lettertrees.verdicts import is_fine, verdict
from lettertrees.wishes import check_wish
from lettertrees.wrongs import least_wrong_way

# The known rule of each known house.
RULES = {"up": "plain", "kept": "plain", "joined": "joined", "lazy": "bare"}


class House:
    """A rule, and a routine for each of some wishes."""

    def __init__(self, rule, routines):
        for wish in routines:
            check_wish(wish)
        self.rule = rule
        self._routines = {wish: routines[wish] for wish in routines}

    @property
    def routines(self):
        """A dict from the wishes to the routines, new with each access."""
        return {wish: self._routines[wish] for wish in self._routines}

    def __eq__(self, other):
        return isinstance(other, House) and self.rule == other.rule and self._routines == other._routines

    def verdicts(self):
        """A dict from the wishes to the verdicts under the rule."""
        return {wish: verdict(self._routines[wish], self.rule, wish) for wish in self._routines}


def way_to_wrong(routine, rule, wish):
    """The cells of a way, the last one first, on a tree of fewest words on which a routine is wrong; None if right."""
    outcomes = Outcomes(routine, rule)

    def cost(cell):
        return PLACE * words_at(rule, cell) + 1

    def is_bad(table):
        return not is_fine(wish, table)

    return least_wrong_way(rests_above(outcomes, rule), outcomes, rule, cost, is_bad)


def least_history(house):
    """As few calls as any of which the last one is not right, and the others are; None if there are none such."""
    routines = house.routines
    if not house.rule.is_exact():
        raise NotExact()
    if "put" not in routines:
        raise NoPut()
    ways = {wish: way_to_wrong(routines[wish], house.rule, wish) for wish in routines}
    histories = []
    for wish in ways:
        if ways[wish] is not None:
            tree, word = tree_along(house.rule, ways[wish])
            # Each put meets fewer words than any call that is not right.
            histories.append(tuple([("put", kept) for kept in tree.words()]) + ((wish, word),))
    return min(histories, key=len) if histories else None


def trace_of(house, tree, call):
    """The trace of a call of a history on a tree; None if the house has no such wish or the play raises an error."""
    wish, word = call
    routines = house.routines
    if wish not in list(routines):
        return None
    try:
        return play(tree, routines[wish], word)
    except TreesError:
        return None


def is_history(house, calls):
    """Whether the last one of the calls is not right, and all others are."""
    tree = Tree(ALPHABET, [("", False, False)])
    right = True
    for call in calls:
        trace = trace_of(house, tree, call)
        if trace is None or not right:
            return False
        wish, word = call
        right = judged(wish, house.rule, tree, word, trace) == "right"
        tree = trace.tree
    return not right


def kinds_behind(routine, rule):
    """The kinds that the root, and that other places, have behind calls on trees that keep the rule."""
    # Only for its error.
    tables(routine, rule)
    return all_kinds_behind(routine, rule)


def with_kinds(kinds, more):
    """The kinds with those of more that are not among them."""
    return list(kinds) + [kind for kind in more if kind not in kinds]


def rounds(routines):
    """The rules that let more and more of the kinds behind calls, the empty tree's rule first."""
    rule = Rule([BARE], [])
    out = []
    while rule not in out:
        out.append(rule)
        root, others = rule.root, rule.others
        for routine in routines:
            roots_behind, others_behind = kinds_behind(routine, rule)
            root = with_kinds(root, roots_behind)
            others = with_kinds(others, others_behind)
        rule = Rule(root, others)
    return tuple(out)


def least_rule(routines):
    """The least rule that the empty tree keeps, and that each of the routines keeps."""
    return rounds(routines)[-1]


def known_house(name):
    """The house of one of four names."""
    texts = texts_of(name)
    if texts is None:
        raise BadName(name)
    rule = known_rule(RULES[name])
    return House(rule, {wish: Routine.read(texts[wish]) for wish in texts})
