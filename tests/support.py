"""What the tests share: values of every kind, places, and how an error is asked for."""

import itertools
import unittest

from lettertrees.errors import BadWord, NotExact
from lettertrees.ratios import Ratio
from lettertrees.routines import Routine
from lettertrees.rules import Rule
from lettertrees.trees import Tree

ALPHABET = "abcdefghijklmnopqrstuvwxyz"


def deep_list(depth):
    value = []
    for _ in range(depth - 1):
        value = [value]
    return value


def odd_values():
    """Fresh values, none of which is a word, letters, a row, a kind, a size, a name, a statement or a test."""
    return [
        None, True, False, -1, 10 ** 39, (), ("",), ("a",), ("ab", 2, None), [], [""], ["a", "b"],
        [[], {}], {}, {"a": 1}, {"": [1]}, deep_list(10), "A", "aB", "a b", "a-", "\n", "\u00e9", "\u00df", "a\u0430",
        Tree("ab", [("", False, False)]), Rule([], []), BadWord(0), NotExact(),
        Routine([], [("cut",)], []), Ratio(7, 13),
    ]


def first_places(letters, many):
    """So many places, shorter ones first: with each one its parent."""
    out = []
    for length in range(many):
        for signs in itertools.product(letters, repeat=length):
            if len(out) == many:
                return out
            out.append("".join(signs))
    return out


class TreesCase(unittest.TestCase):
    def assert_error(self, error_class, fields, call, *args):
        """The call raises just this error, with these fields."""
        with self.assertRaises(error_class) as caught:
            call(*args)
        self.assertIs(type(caught.exception), error_class)
        for name, value in fields.items():
            held = getattr(caught.exception, name)
            self.assertTrue(held is value or held == value, (name, held, value))
            self.assertIs(type(held), type(value))
