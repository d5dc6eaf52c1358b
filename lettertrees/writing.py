"""How statements and tests are written as lines."""

LINES = {
    "mark": ("mark",),
    "unmark": ("unmark",),
    "f = true": ("set", "f", True),
    "f = false": ("set", "f", False),
    "x = true": ("set", "x", True),
    "x = false": ("set", "x", False),
    "y = true": ("set", "y", True),
    "y = false": ("set", "y", False),
    "make": ("make",),
    "cut": ("cut",),
    "keep": ("keep",),
    "stop": ("stop",),
    "return yes": ("return", "yes"),
    "return no": ("return", "no"),
    "return node": ("return", "node"),
    "return p": ("return", "p"),
    "return yes, cut": ("return", "yes", "cut"),
    "return no, cut": ("return", "no", "cut"),
    "return node, cut": ("return", "node", "cut"),
    "return p, cut": ("return", "p", "cut"),
}
PLAIN_TESTS = {
    "marked": ("mark",),
    "f": ("f",),
    "x": ("x",),
    "y": ("y",),
    "at root": ("root",),
    "at end": ("ends",),
    "next": ("next",),
    "others == 0": ("others", 0),
    "others == 1": ("others", 1),
    "others > 1": ("others", 2),
    "p": ("p",),
    "at p": ("here",),
    "true": ("true",),
}
BLANKS = "    "


def line_of(statement):
    """The line of a statement that is no if."""
    return [text for text in LINES if LINES[text] == statement][0]


def plain_text(test):
    """A test that has no other one in it as it stands in a line."""
    return [text for text in PLAIN_TESTS if PLAIN_TESTS[text] == test][0]


def test_text(test):
    """A test as it stands in a line."""
    name = test[0]
    if name == "not":
        return "not " + inner_text(test[1], ("and", "or"))
    if name == "and":
        return inner_text(test[1], ("or",)) + " and " + inner_text(test[2], ("and", "or"))
    if name == "or":
        return test_text(test[1]) + " or " + inner_text(test[2], ("or",))
    return plain_text(test)


def inner_text(test, bracketed):
    """A test within another one, in brackets if it has one of these names."""
    text = test_text(test)
    return "(" + text + ")" if test[0] in bracketed else text


def if_lines(statement, depth, word):
    """The lines of an if that begins with this word."""
    blanks = BLANKS * depth
    other = statement[3]
    lines = [blanks + word + " " + test_text(statement[1]) + ":"] + block_lines(statement[2], depth + 1)
    if len(other) == 1 and other[0][0] == "if":
        return lines + if_lines(other[0], depth, "elif")
    if other:
        return lines + [blanks + "else:"] + block_lines(other, depth + 1)
    return lines


def block_lines(block, depth):
    """The lines of the statements of a block, so many times indented."""
    lines = []
    for statement in block:
        if statement[0] == "if":
            lines.extend(if_lines(statement, depth, "if"))
        else:
            lines.append(BLANKS * depth + line_of(statement))
    return lines


def routine_lines(down, turn, up):
    """The lines of a routine of these blocks."""
    lines = []
    for name, block in (("down", down), ("turn", turn), ("up", up)):
        if block:
            lines.append(name + ":")
            lines.extend(block_lines(block, 1))
    return lines
