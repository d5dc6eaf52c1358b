"""How the lines of a routine are read."""

from lettertrees.errors import BadText
from lettertrees.statements import MOST_STATEMENTS, MOST_TESTS, is_statement
from lettertrees.writing import BLANKS, LINES, PLAIN_TESTS, routine_lines, test_text

BLOCKS = ("down", "turn", "up")
HEADS = ("down:", "turn:", "up:")


def last_outside(text, sign):
    """Where the sign, which begins with a blank, stands outside of brackets for the last time; -1 if nowhere."""
    depth = 0
    last = -1
    for at, letter in enumerate(text):
        if letter == "(":
            depth += 1
        elif letter == ")":
            depth -= 1
        elif letter == " " and depth == 0 and text[at:at + len(sign)] == sign:
            last = at
    return last


def is_in_brackets(text):
    """Whether the bracket with which the text begins is closed at its end, and not before."""
    if text[:1] != "(":
        return False
    depth = 0
    for at, letter in enumerate(text):
        if letter == "(":
            depth += 1
        elif letter == ")":
            depth -= 1
        if depth == 0:
            return at == len(text) - 1
    return False


def rough_test(text, most):
    """The test that the text may tell, with at most so many tests within one another; None if it tells none.

    Brackets that are not needed are let pass here and there.
    """
    if most == 0:
        return None
    for word in ("or", "and"):
        sign = " " + word + " "
        at = last_outside(text, sign)
        if at >= 0:
            one = rough_inner(text[:at], most - 1)
            other = rough_inner(text[at + len(sign):], most - 1)
            return None if one is None or other is None else (word, one, other)
    if text.startswith("not "):
        inner = rough_inner(text[4:], most - 1)
        return None if inner is None else ("not", inner)
    return PLAIN_TESTS.get(text)


def rough_inner(text, most):
    """As rough_test, for a test within another one, which may stand in brackets."""
    return rough_test(text[1:-1] if is_in_brackets(text) else text, most)


def read_test(text):
    """The test that is written just so; None if there is none."""
    test = rough_test(text, MOST_TESTS)
    return None if test is None or test_text(test) != text else test


def test_of_line(words, word):
    """The test of a line that begins with this word; None if the line is no such line."""
    if not words.startswith(word + " ") or not words.endswith(":"):
        return None
    return read_test(words[len(word) + 1:-1])


class Reader:
    """Takes the lines of a text one behind the other, and builds the blocks that they tell.

    Each method that takes something tells whether it can stand there.
    """

    def __init__(self):
        self.blocks = {"down": [], "turn": [], "up": []}
        self.name = None
        # The open blocks, the outermost one first, and for each one the if that an else may follow there.
        self.levels = []
        self.ifs = []
        self.many = 0

    def lacks(self):
        """Whether a block was just opened, and nothing stands in it."""
        return len(self.levels) > 0 and len(self.levels[-1]) == 0

    def take(self, line):
        words = line.lstrip(" ")
        blanks = len(line) - len(words)
        if words in HEADS:
            return blanks == 0 and self.take_head(words[:-1])
        return blanks % len(BLANKS) == 0 and self.take_at(blanks // len(BLANKS), words)

    def take_head(self, name):
        if self.lacks() or (self.name is not None and BLOCKS.index(name) <= BLOCKS.index(self.name)):
            return False
        self.name = name
        self.levels = [self.blocks[name]]
        self.ifs = [None]
        return True

    def take_at(self, depth, words):
        if depth < 1 or depth > len(self.levels) or (self.lacks() and depth < len(self.levels)):
            return False
        self.levels = self.levels[:depth]
        self.ifs = self.ifs[:depth]
        if words == "else:":
            return self.take_else()
        test = test_of_line(words, "if")
        if test is not None:
            return self.take_if(self.levels[-1], test)
        test = test_of_line(words, "elif")
        if test is not None:
            return self.ifs[-1] is not None and self.take_if(self.ifs[-1][3], test)
        statement = LINES.get(words)
        return statement is not None and self.take_statement(statement)

    def take_else(self):
        opened = self.ifs[-1]
        if opened is None:
            return False
        self.ifs[-1] = None
        self.open_block(opened[3])
        return True

    def take_if(self, block, test):
        statement = ["if", test, [], []]
        block.append(statement)
        self.ifs[-1] = statement
        self.open_block(statement[2])
        return self.count_one()

    def take_statement(self, statement):
        self.levels[-1].append(statement)
        self.ifs[-1] = None
        return is_statement(statement, self.name) and self.count_one()

    def open_block(self, block):
        self.levels.append(block)
        self.ifs.append(None)

    def count_one(self):
        self.many += 1
        return self.many <= MOST_STATEMENTS


def first_unlike(lines, others):
    """The number of the first line that differs; None if all are the same."""
    for number in range(max(len(lines), len(others))):
        if lines[number:number + 1] != others[number:number + 1]:
            return number
    return None


def read_blocks(text):
    """The three blocks that a text tells; BadText for any value that is no such text."""
    if not isinstance(text, str):
        raise BadText(0)
    if text == "":
        return [], [], []
    lines = text.split("\n")
    reader = Reader()
    for number, line in enumerate(lines):
        if not reader.take(line):
            raise BadText(number)
    if reader.lacks():
        raise BadText(len(lines))
    down, turn, up = [reader.blocks[name] for name in BLOCKS]
    unlike = first_unlike(lines, routine_lines(down, turn, up))
    if unlike is not None:
        raise BadText(unlike)
    return down, turn, up
