"""How many trees of some kinds there are, and which they are.

A part is a place other than the root with all that is below it. A forest is what hangs below
one place: at most one part by each letter.
"""


def tally(kinds):
    """How many of the kinds have no child, one child, two and more."""
    return [len([kind for kind in kinds if kind[2] == children]) for children in (0, 1, 2)]


def number_above(tallied, many, parts, forests, below):
    """How many ways there are to take one of the tallied kinds with a forest of so many places below it."""
    bare = 1 if below == 0 else 0
    single = many * parts[below]
    return tallied[0] * bare + tallied[1] * single + tallied[2] * (forests[below] - bare - single)


def next_forests(many, parts, forests):
    """How many forests of the next size there are, parts being known up to this size.

    As power series the forests are F = (1 + P) ** many. So F' * (1 + P) = many * P' * F, which
    tells each number of F by those before it, without spreading the places over the letters.
    """
    size = len(forests)
    terms = [((many + 1) * part - size) * parts[part] * forests[size - part] for part in range(1, size + 1)]
    return sum(terms) // size


def numbers_by_size(others, many, size):
    """Two lists: how many parts and how many forests there are of 0, 1 .. size places, over many letters."""
    tallied = tally(others)
    parts, forests = [0], [1]
    for below in range(size):
        parts.append(number_above(tallied, many, parts, forests, below))
        forests.append(next_forests(many, parts, forests))
    return parts, forests


def number_of_rows(root, others, many, size):
    """How many trees over many letters there are, with so many places, of kinds at the root and of others."""
    parts, forests = numbers_by_size(others, many, size - 1)
    return number_above(tally(root), many, parts, forests, size - 1)


def rests_behind(children):
    """How many children, as kinds tell them, may follow behind the first one of so many."""
    return (0,) if children == 1 else (1, 2)


def joined_rows(letter, part, rest):
    """The rows of a forest: a part hung by this letter, and the rows of the others."""
    return [(letter + place, mark, flag) for place, mark, flag in part] + rest


class Lister:
    """Lists parts and forests as lists of rows; their places are told from above them.

    Only what stands in some tree that is asked for is listed, so no list is longer than the last one.
    """

    def __init__(self, letters, others, size):
        self.letters = letters
        self.others = others
        self.numbers = numbers_by_size(others, len(letters), size)[0]
        self.known_parts = {}
        self.known_forests = {}

    def all_above(self, kinds, below):
        """All of these kinds with a forest of so many places."""
        out = []
        for mark, flag, children in kinds:
            for forest in self.forests(0, below, children):
                out.append([("", mark, flag)] + forest)
        return out

    def parts(self, size):
        """All parts of so many places."""
        if size not in self.known_parts:
            self.known_parts[size] = self.all_above(self.others, size - 1)
        return self.known_parts[size]

    def forests(self, start, size, children):
        """All forests by the letters from start on, children being told as in kinds."""
        if children == 0:
            return [[]] if size == 0 else []
        key = (start, size, children)
        if key not in self.known_forests:
            self.known_forests[key] = self.forests_anew(start, size, children)
        return self.known_forests[key]

    def forests_anew(self, start, size, children):
        out = []
        for at in range(start, len(self.letters)):
            for part_size in range(1, size + 1):
                if self.numbers[part_size] > 0:
                    out.extend(self.forests_from(at, part_size, size, children))
        return out

    def forests_from(self, at, part_size, size, children):
        """The forests whose first part hangs by the letter there and has this size."""
        rests = []
        for behind in rests_behind(children):
            rests.extend(self.forests(at + 1, size - part_size, behind))
        if not rests:
            # The parts of this size may be too many to be listed where no tree needs them.
            return []
        letter = self.letters[at]
        return [joined_rows(letter, part, rest) for part in self.parts(part_size) for rest in rests]


def all_rows(letters, root, others, size):
    """The list of the rows of all trees of so many places, of kinds at the root and of others."""
    return Lister(letters, others, size).all_above(root, size - 1)
