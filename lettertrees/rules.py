"""Rules: which kinds of places are let in a tree."""

from lettertrees.errors import BadKind, BadName, BadSize, NotExact, TooMany
from lettertrees.forests import all_rows, number_of_rows
from lettertrees.trees import Tree, check_letters

BARE = (False, False, 0)
MOST_SIZE = 100
MOST_TREES = 5000


def kind_of(tree, place):
    """The kind (mark, flag, children) of a place."""
    _, mark, flag = tree.row(place)
    return mark, flag, min(2, len(tree.below(place)))


def is_kind(kind):
    """Whether any value is a kind."""
    if not isinstance(kind, (tuple, list)) or len(kind) != 3:
        return False
    mark, flag, children = kind
    if not isinstance(mark, bool) or not isinstance(flag, bool):
        return False
    return isinstance(children, int) and not isinstance(children, bool) and 0 <= children <= 2


def checked_kinds(side, kinds):
    """The kinds as a tuple, ascending; BadKind for the first one that is none or stands before."""
    known = {}
    for number, kind in enumerate(kinds):
        if not is_kind(kind) or tuple(kind) in known:
            raise BadKind(side, number)
        known[tuple(kind)] = True
    return tuple(sorted(known))


def flags_let(kinds, mark, children):
    """The flags with which a mark and a number of children are let."""
    return [kind[1] for kind in kinds if kind[0] == mark and kind[2] == children]


def check_size(size):
    """Raise BadSize for any value that is no integer from 1 to 100."""
    if not isinstance(size, int) or isinstance(size, bool) or not 1 <= size <= MOST_SIZE:
        raise BadSize(size)


class Rule:
    """The kinds that are let at the root, and those at other places."""

    def __init__(self, root, others):
        self.root = checked_kinds("root", root)
        self.others = checked_kinds("others", others)

    def __eq__(self, other):
        return isinstance(other, Rule) and self.root == other.root and self.others == other.others

    def keeps(self, tree):
        """Whether the kind of each place of the tree is let."""
        return self.broken_at(tree) is None

    def broken_at(self, tree):
        """The first place, in order, whose kind is not let; None if there is none."""
        for row in tree.rows:
            place = row[0]
            kinds = self.root if place == "" else self.others
            if kind_of(tree, place) not in kinds:
                return place
        return None

    def is_exact(self):
        """Whether there is just one tree for each set of words, that of no words without a flag."""
        if BARE not in self.root or flags_let(self.others, False, 0):
            return False
        for mark in (False, True):
            for children in (0, 1, 2):
                if len(flags_let(self.root, mark, children)) != 1:
                    return False
                if (mark or children > 0) and len(flags_let(self.others, mark, children)) != 1:
                    return False
        return True

    def tree_of(self, letters, words):
        """The one tree of an exact rule that keeps just these words."""
        if not self.is_exact():
            raise NotExact()
        plain = Tree.of(letters, words)
        rows = []
        for place, mark, _ in plain.rows:
            kinds = self.root if place == "" else self.others
            children = kind_of(plain, place)[2]
            rows.append((place, mark, flags_let(kinds, mark, children)[0]))
        return Tree(letters, rows)

    def number_of_trees(self, letters, size):
        """How many trees over these letters with so many places keep the rule."""
        check_letters(letters)
        check_size(size)
        return number_of_rows(self.root, self.others, len(letters), size)

    def trees(self, letters, size):
        """The list of these trees."""
        many = self.number_of_trees(letters, size)
        if many > MOST_TREES:
            raise TooMany("trees", many, MOST_TREES)
        if many == 0:
            return []
        return [Tree(letters, rows) for rows in all_rows(letters, self.root, self.others, size)]


def kinds_with(flags):
    """The list of all kinds with one of these flags."""
    return [(mark, flag, children) for mark in (False, True) for flag in flags for children in (0, 1, 2)]


def joined_kind(kind):
    """A kind of the rule plain as the rule joined lets it: the flag tells of a place that lies within a way."""
    return (False, True, 1) if kind == (False, False, 1) else kind


def known_rule(name):
    """The rule of one of four names."""
    if name not in ("plain", "joined", "bare", "free"):
        raise BadName(name)
    flagless = kinds_with((False,))
    if name == "bare":
        return Rule(flagless, flagless)
    if name == "free":
        return Rule(kinds_with((False, True)), kinds_with((False, True)))
    others = [kind for kind in flagless if kind != BARE]
    if name == "joined":
        others = [joined_kind(kind) for kind in others]
    return Rule(flagless, others)
