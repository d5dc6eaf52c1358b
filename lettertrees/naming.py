"""The names of a grove, each of which stands for a place with all below it."""

from lettertrees.errors import BadRule, TooMany

CAPITALS = "ABCDEFGHIJKLMNOPQRSTUVWXYZ"
LONGEST_NAME = 8
MOST_RULES = 1000


def is_name(value):
    """Whether any value is a word of 1 to 8 capital letters."""
    if not isinstance(value, str) or not 1 <= len(value) <= LONGEST_NAME:
        return False
    return all([sign in CAPITALS for sign in value])


def is_key(rules, value):
    """Whether any value is a key of a dict; it may be such that a dict cannot be asked for it."""
    return value in rules if isinstance(value, str) else value in list(rules)


def is_rule(letters, rules, value):
    """Whether any value is a triple (mark, flag, parts) with parts that stand for keys of the dict."""
    if not isinstance(value, (tuple, list)) or len(value) != 3:
        return False
    mark, flag, parts = value
    if not isinstance(mark, bool) or not isinstance(flag, bool) or not isinstance(parts, dict):
        return False
    for letter in parts:
        if not isinstance(letter, str) or len(letter) != 1 or letter not in letters:
            return False
    return all([is_key(rules, parts[letter]) for letter in parts])


def check_number(many):
    """Raise TooMany where a grove cannot have so many rules."""
    if not 1 <= many <= MOST_RULES:
        raise TooMany("rules", many, MOST_RULES)


def check_rules(letters, rules):
    """Raise the error of the first rule that is wrong by itself, or of too many rules."""
    check_number(len(rules))
    for name in rules:
        if not is_name(name) or not is_rule(letters, rules, rules[name]):
            raise BadRule(name)


def copied(rules):
    """A dict of the triples, with new dicts of their parts."""
    out = {}
    for name in rules:
        mark, flag, parts = rules[name]
        out[name] = (mark, flag, {letter: parts[letter] for letter in parts})
    return out


def parts_of(rules, name):
    """The names of the children of what a name stands for, as often as they are it."""
    parts = rules[name][2]
    return [parts[letter] for letter in parts]


def bottom_up(rules):
    """The names that do not stand above a ring or on it, each one behind its parts."""
    users = {name: [] for name in rules}
    lacking = {}
    for name in rules:
        parts = parts_of(rules, name)
        lacking[name] = len(parts)
        for part in parts:
            users[part].append(name)
    ready = [name for name in rules if lacking[name] == 0]
    out = []
    while ready:
        name = ready.pop()
        out.append(name)
        for user in users[name]:
            lacking[user] -= 1
            if lacking[user] == 0:
                ready.append(user)
    return out


def all_below(rules, names):
    """A dict of the names that stand below these ones, and of these ones themselves."""
    found = {name: True for name in names}
    ahead = list(found)
    while ahead:
        for part in parts_of(rules, ahead.pop()):
            if part not in found:
                found[part] = True
                ahead.append(part)
    return found


def first_on_ring(rules, names):
    """The first one of the names, ascending, that stands below itself."""
    for name in sorted(names):
        if name in all_below(rules, parts_of(rules, name)):
            return name
    return None


def name_of(number):
    """The name of this number: shorter names come first."""
    name = CAPITALS[number % len(CAPITALS)]
    left = number // len(CAPITALS)
    while left > 0:
        left -= 1
        name = CAPITALS[left % len(CAPITALS)] + name
        left = left // len(CAPITALS)
    return name


def fresh_names(known, many):
    """The first names, so many of them, that are not known."""
    out = []
    number = 0
    while len(out) < many:
        name = name_of(number)
        if name not in known:
            out.append(name)
        number += 1
    return out
