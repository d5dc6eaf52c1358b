"""The way of a word: what a routine sees of a tree."""

from lettertrees.statements import is_count
from lettertrees.trees import shared


def cells(tree, word):
    """One cell (mark, flag, others, words) for each beginning of the word; None for one that is no place."""
    # Another kept word lies at or below another child just where it leaves the way.
    leaves = {shared(word, kept): True for kept in tree.words() if not word.startswith(kept)}
    return tuple([cell_at(tree, word, length, length in leaves) for length in range(len(word) + 1)])


def cell_at(tree, word, length, words):
    """The cell of the beginning of this length, words being known."""
    place = word[:length]
    if not tree.has(place):
        return None
    _, mark, flag = tree.row(place)
    ahead = word[length:length + 1]
    others = [letter for letter in tree.below(place) if letter != ahead]
    return mark, flag, min(2, len(others)), words


def children_let(rule, mark):
    """The numbers of children that are let at places other than the root with such a mark, ascending."""
    return sorted([kind[2] for kind in rule.others if kind[0] == mark])


def least_part(rule, words):
    """The least number of places of a part that keeps a word, or none; None if there is no such part."""
    bare = 1 if 0 in children_let(rule, False) else None
    if not words:
        return bare
    marked = children_let(rule, True)
    if 0 in marked:
        return 1
    # Leaves are bare now; the least part is a marked place with as few of them as it may have.
    return 1 + marked[0] if marked and bare is not None else None


def is_cell(value):
    """Whether any value is a cell."""
    if not isinstance(value, tuple) or len(value) != 4:
        return False
    mark, flag, others, words = value
    return isinstance(mark, bool) and isinstance(flag, bool) and is_count(others) and isinstance(words, bool)


def is_let(rule, cell, root, goes_on):
    """Whether any value is a cell that a place may have, the next child being there if the way goes on."""
    if not is_cell(cell):
        return False
    mark, flag, others, words = cell
    children = min(2, others + 1) if goes_on else others
    if (mark, flag, children) not in (rule.root if root else rule.others):
        return False
    return not words if others == 0 else least_part(rule, words) is not None
