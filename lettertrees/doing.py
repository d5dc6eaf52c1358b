"""How the blocks of a routine are done at a place.

What a call meets and has there is told by a dict of facts, by the names of the tests: "mark", "f", "x", "y",
"root", "ends", "next", "p", "here" and "true" are bools, "others" is 0, 1 or 2. Statements change the facts.
An ending tells why a block has ended before its end: a statement stop or return, or ("misuse", kind).
"""

STOP = ("stop",)
GO_DOWN = ("go",)


def holds(test, facts):
    """Whether a test holds."""
    name = test[0]
    if name == "not":
        return not holds(test[1], facts)
    if name == "and":
        return holds(test[1], facts) and holds(test[2], facts)
    if name == "or":
        return holds(test[1], facts) or holds(test[2], facts)
    if name == "others":
        return facts["others"] == test[1]
    return facts[name]


def do_make(facts):
    """Make the next child; the ending if it is there."""
    if facts["next"]:
        return "misuse", "there"
    facts["next"] = True
    return None


def do_cut(facts):
    """Cut the next child off; the ending if there is none."""
    if not facts["next"]:
        return "misuse", "none"
    facts["next"] = False
    return None


def do_one(statement, facts):
    """Do a statement that is no if; its ending, None if it ends nothing."""
    name = statement[0]
    if name in ("stop", "return"):
        return statement
    if name == "make":
        return do_make(facts)
    if name == "cut":
        return do_cut(facts)
    if name == "set":
        facts[statement[1]] = statement[2]
    elif name == "keep":
        facts["p"] = True
        facts["here"] = True
    else:
        facts["mark"] = name == "mark"
    return None


def do_block(block, facts):
    """Do the statements of a block; the ending, None if it was done to its end."""
    for statement in block:
        if statement[0] == "if":
            inner = statement[2] if holds(statement[1], facts) else statement[3]
            ending = do_block(inner, facts)
        else:
            ending = do_one(statement, facts)
        if ending is not None:
            return ending
    return None


def come_down(routine, facts):
    """Do what is done at a place where the call comes down: down, and turn where it turns.

    GO_DOWN if the call goes to the next child; otherwise the ending of turn or of the call.
    """
    if not facts["ends"]:
        ending = do_block(routine.down, facts)
        if ending is None and facts["next"]:
            return GO_DOWN
        if ending is not None and ending != STOP:
            return ending
    return do_block(routine.turn, facts)
