"""Least trees along a way whose cells are told.

The way goes by the letter a, what hangs beside it by c and d; the letter b is left for a second way.
"""

from lettertrees.cells import least_part
from lettertrees.trees import Tree

LETTERS = "abcd"
BESIDE = "cd"
# Each place counts for more than all letters that a word may have.
PLACE = 10 ** 6


def part_rows(rule, words):
    """The rows of a least part that keeps a word, or none, its places told from its top; there is one."""
    leaf = [("", mark, flag) for mark, flag, children in rule.others if mark == words and children == 0]
    if leaf:
        return leaf[:1]
    # Only bare leaves are let, so the marked place stands above as few of them as it may have.
    _, children, flag = min([(kind[0], kind[2], kind[1]) for kind in rule.others if kind[0]])
    bare = part_rows(rule, False)[0]
    return [("", True, flag)] + [(letter,) + bare[1:] for letter in "ab"[:children]]


def parts_beside(rule, cell):
    """For each part that hangs beside the way at a place with this cell, whether it keeps a word."""
    _, _, others, words = cell
    if others == 2 and words:
        # The second part may be any one, so it is a leaf.
        return [True, least_part(rule, False) is None]
    return [words] * others


def places_at(rule, cell):
    """How many places a least tree has at a place with this cell and beside the way; None is out."""
    if cell is None:
        return 0
    return 1 + sum([least_part(rule, words) for words in parts_beside(rule, cell)])


def words_at(rule, cell):
    """How many words a least tree keeps at a place with this cell and beside the way; None is out."""
    if cell is None:
        return 0
    kept = [words for words in parts_beside(rule, cell) if words]
    return len(kept) + (1 if cell[0] else 0)


def rows_at(rule, place, cell):
    """The rows of a place with this cell, and of what hangs beside the way there."""
    if cell is None:
        return []
    rows = [(place, cell[0], cell[1])]
    for letter, words in zip(BESIDE, parts_beside(rule, cell)):
        rows.extend([(place + letter + below, mark, flag) for below, mark, flag in part_rows(rule, words)])
    return rows


def rows_along(rule, top, way):
    """The rows along a way down from a place; way is the list of the cells, that of this place last."""
    rows = []
    for number, cell in enumerate(way[::-1]):
        rows.extend(rows_at(rule, top + "a" * number, cell))
    return rows


def cheapest_cells(rule, cells):
    """The cells without those that differ from another one just by words, and cost more places."""
    cheapest = {}
    for cell in cells:
        kept = cheapest.get(cell[:3])
        if kept is None or places_at(rule, cell) < places_at(rule, kept):
            cheapest[cell[:3]] = cell
    return list(cheapest.values())


def tree_along(rule, way):
    """The tree with this way (the root's cell is the last one), and the word at its end."""
    return Tree(LETTERS, rows_along(rule, "", way)), "a" * (len(way) - 1)
