"""Wishes: what is asked of a call."""

from lettertrees.errors import BadWish

WISHES = ("has", "put", "strike", "begins", "longest")


def check_wish(name):
    """Raise BadWish for any value that is none of the five wishes."""
    if name not in WISHES:
        raise BadWish(name)


def yes_or_no(holds):
    """The answer that tells whether something holds."""
    return "yes" if holds else "no"


def longest_beginning(words, word):
    """The answer that tells the longest of the words with which the word begins."""
    lengths = [len(kept) for kept in words if word.startswith(kept)]
    return ("at", word[:max(lengths)]) if lengths else None


def wanted(name, words, word):
    """The answer that a wish asks for where these words are kept, and the words that are kept afterwards."""
    check_wish(name)
    kept = word in words
    others = [other for other in words if other != word]
    if name == "put":
        return yes_or_no(not kept), tuple(sorted(others + [word]))
    if name == "strike":
        return yes_or_no(kept), tuple(sorted(others))
    same = tuple(sorted(words))
    if name == "has":
        return yes_or_no(kept), same
    if name == "begins":
        return yes_or_no(any([other.startswith(word) for other in words])), same
    return longest_beginning(words, word), same
