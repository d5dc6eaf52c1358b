"""Routines that are right, with statements of other ones put in here and there."""

from lettertrees.errors import TreesError
from lettertrees.routines import Routine
from lettertrees.verdicts import Right, verdict
from tests.drawing import Drawer


def changed_block(block, name, drawer, tests):
    """The block with one change: a statement put in, one under an if, or a test joined with another one."""
    out = list(block)
    choice = drawer.random.random()
    ifs = [at for at, one in enumerate(out) if one[0] == "if"]
    if ifs and choice < 0.6:
        at = drawer.random.choice(ifs)
        _, test, first, second = out[at]
        part = drawer.random.random()
        if part < 0.35:
            first = changed_block(first, name, drawer, tests)
        elif part < 0.5:
            second = changed_block(second, name, drawer, tests)
        else:
            test = (drawer.random.choice(["and", "or"]), test, drawer.random.choice(tests))
        out[at] = ("if", test, first, second)
    elif choice < 0.8 or not out:
        out.insert(drawer.random.randint(0, len(out)), drawer.statement(name, 3, 1)[0])
    else:
        at = drawer.random.randrange(len(out))
        out[at] = ("if", drawer.random.choice(tests), [out[at]], [])
    return out


def changed(routine, drawer):
    """The routine with some changes."""
    plain = [("mark",), ("f",), ("x",), ("y",), ("root",), ("ends",), ("next",), ("others", 0), ("p",)]
    tests = plain + [("not", test) for test in plain]
    blocks = {"down": routine.down, "turn": routine.turn, "up": routine.up}
    for _ in range(drawer.random.randint(1, 4)):
        name = drawer.random.choice([name for name in blocks if blocks[name]])
        blocks[name] = changed_block(blocks[name], name, drawer, tests)
    return Routine(blocks["down"], blocks["turn"], blocks["up"])


def right_ones(routine, rule, wish, seed, many, names="px", tries=400):
    """Some routines that are right, each one a changed one of those before, the first one being this one."""
    drawer = Drawer(seed, names)
    found = [routine]
    for _ in range(tries):
        if len(found) == many:
            break
        try:
            other = changed(drawer.random.choice(found), drawer)
            if isinstance(verdict(other, rule, wish), Right) and other not in found:
                found.append(other)
        except TreesError:
            pass
    return found
