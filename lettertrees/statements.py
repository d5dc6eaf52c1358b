"""What the statements and tests of a routine may look like, and how they are gone over."""

from lettertrees.errors import BadStatement, TooMany

MOST_STATEMENTS = 40
MOST_TESTS = 6
PLAIN_TESTS = ("mark", "f", "x", "y", "root", "ends", "next", "p", "here", "true")
ANSWERS = ("yes", "no", "node", "p")
# The blocks in which each statement of one word is let.
LET_IN = {
    "mark": ("down", "turn", "up"),
    "unmark": ("down", "turn", "up"),
    "make": ("down",),
    "cut": ("turn", "up"),
    "keep": ("down", "turn"),
    "stop": ("down", "up"),
}


def is_list(value):
    """Whether any value is a list, as a tuple or a list."""
    return isinstance(value, (tuple, list))


def is_count(value):
    """Whether any value is 0, 1 or 2."""
    return isinstance(value, int) and not isinstance(value, bool) and 0 <= value <= 2


def is_test(test, most):
    """Whether any value is a test, with at most so many tests within one another."""
    if most == 0 or not is_list(test) or len(test) == 0:
        return False
    name = test[0]
    if len(test) == 1:
        return name in PLAIN_TESTS
    if name == "others":
        return len(test) == 2 and is_count(test[1])
    if name == "not":
        return len(test) == 2 and is_test(test[1], most - 1)
    if name in ("and", "or"):
        return len(test) == 3 and is_test(test[1], most - 1) and is_test(test[2], most - 1)
    return False


def is_word_let(name, block):
    """Whether any value is a statement of this one word in a block of this name."""
    return isinstance(name, str) and name in LET_IN and block in LET_IN[name]


def is_set(statement):
    """Whether a list that begins with "set" is a statement."""
    return len(statement) == 3 and statement[1] in ("f", "x", "y") and isinstance(statement[2], bool)


def is_return(statement, block):
    """Whether a list that begins with "return" and something more is a statement in a block of this name."""
    if statement[1] not in ANSWERS:
        return False
    return len(statement) == 2 or (len(statement) == 3 and statement[2] == "cut" and block == "turn")


def is_if(statement):
    """Whether a list that begins with "if" is a statement, whatever stands in its blocks."""
    if len(statement) != 4 or not is_test(statement[1], MOST_TESTS):
        return False
    return is_list(statement[2]) and len(statement[2]) > 0 and is_list(statement[3])


def is_statement(statement, block):
    """Whether any value is a statement that is let in a block of this name, whatever stands in it."""
    if not is_list(statement) or len(statement) == 0:
        return False
    name = statement[0]
    if len(statement) == 1:
        return is_word_let(name, block)
    if name == "set":
        return is_set(statement)
    if name == "return":
        return is_return(statement, block)
    return name == "if" and is_if(statement)


def number_of_statements(name, block):
    """How many statements stand in a block of this name; BadStatement for the first wrong one.

    They may stand within one another far deeper than functions can call one another.
    """
    if not is_list(block):
        raise BadStatement(name, 0)
    number = 0
    ahead = list(block[::-1])
    while ahead:
        statement = ahead.pop()
        if not is_statement(statement, name):
            raise BadStatement(name, number)
        number += 1
        if statement[0] == "if":
            ahead.extend(statement[3][::-1])
            ahead.extend(statement[2][::-1])
    return number


def check_blocks(down, turn, up):
    """Raise the error of the first thing that is wrong with three blocks."""
    many = sum([number_of_statements(name, block) for name, block in (("down", down), ("turn", turn), ("up", up))])
    if many > MOST_STATEMENTS:
        raise TooMany("statements", many, MOST_STATEMENTS)


def frozen(value):
    """The value with all lists in it as tuples."""
    return tuple([frozen(part) for part in value]) if is_list(value) else value


def names_in_test(test):
    """The list of the names p, x and y in a test, perhaps more than once."""
    name = test[0]
    if name == "not":
        return names_in_test(test[1])
    if name in ("and", "or"):
        return names_in_test(test[1]) + names_in_test(test[2])
    if name == "here":
        return ["p"]
    return [name] if name in ("p", "x", "y") else []


def names_in_statement(statement):
    """The list of the names p, x and y in a statement and what stands in it."""
    name = statement[0]
    if name == "if":
        return names_in_test(statement[1]) + names_in_block(statement[2]) + names_in_block(statement[3])
    if name == "set" and statement[1] != "f":
        return [statement[1]]
    if name == "keep" or (name == "return" and (statement[1] == "p" or len(statement) == 3)):
        return ["p"]
    return []


def names_in_block(block):
    """The list of the names p, x and y in a block."""
    out = []
    for statement in block:
        out.extend(names_in_statement(statement))
    return out
