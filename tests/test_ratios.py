"""Promise [12]: exact fractions."""

import fractions
import itertools
import unittest

from lettertrees import ratios
from lettertrees.errors import BadOver
from lettertrees.ratios import Ratio
from lettertrees.rules import Rule
from lettertrees.trees import Tree
from tests.support import TreesCase, odd_values

GREAT = 10 ** 39 + 7
NUMBERS = [0, 1, -1, 2, -3, 6, 12, GREAT, -GREAT, 10 ** 40 - 1]
OVERS = [1, -1, 2, -2, 3, -4, 6, 9, 10 ** 39, -(10 ** 40 - 1)]


def pairs():
    """Ratios with the fractions that they are."""
    return [(Ratio(number, over), fractions.Fraction(number, over)) for number in NUMBERS for over in OVERS]


class RatioTest(TreesCase):
    def assert_is(self, ratio, fraction):
        self.assertIs(type(ratio), Ratio)
        self.assertEqual((ratio.number, ratio.over), (fraction.numerator, fraction.denominator))
        self.assertIs(type(ratio.number), int)
        self.assertIs(type(ratio.over), int)

    def test_the_example_of_the_document(self):
        half = Ratio(3, -6) + 1
        self.assertEqual(
            [str(half), str(2 - half * 3), str(half.divided(Ratio(1, 3))), half == Ratio(1, 2), half.is_less(1),
             abs(-half).over],
            ["1/2", "1/2", "3/2", True, True, 2])

    def test_lowest_terms(self):
        for ratio, fraction in pairs():
            self.assert_is(ratio, fraction)
        for number, over, told in ((0, 5, (0, 1)), (0, -5, (0, 1)), (6, 4, (3, 2)), (-6, 4, (-3, 2)), (6, -4, (-3, 2)),
                                   (-6, -4, (3, 2)), (8, 8, (1, 1)), (-8, 8, (-1, 1)), (GREAT * 6, GREAT * 4, (3, 2)),
                                   (10 ** 39, 10 ** 40 * -2, (-1, 20))):
            ratio = Ratio(number, over)
            self.assertEqual((ratio.number, ratio.over), told)

    def test_the_over_may_be_left_out(self):
        for number in NUMBERS:
            self.assertEqual((Ratio(number).number, Ratio(number).over), (number, 1))
            self.assertTrue(Ratio(number) == Ratio(number, 1) == Ratio(-2 * number, -2))

    def test_sums_differences_and_products(self):
        for (one, first), (other, second) in itertools.product(pairs()[::3], pairs()[::2]):
            self.assert_is(one + other, first + second)
            self.assert_is(one - other, first - second)
            self.assert_is(one * other, first * second)

    def test_with_integers_on_either_side(self):
        for (ratio, fraction), number in itertools.product(pairs(), NUMBERS):
            self.assert_is(ratio + number, fraction + number)
            self.assert_is(number + ratio, number + fraction)
            self.assert_is(ratio - number, fraction - number)
            self.assert_is(number - ratio, number - fraction)
            self.assert_is(ratio * number, fraction * number)
            self.assert_is(number * ratio, number * fraction)

    def test_of_one(self):
        for ratio, fraction in pairs():
            self.assert_is(-ratio, -fraction)
            self.assert_is(abs(ratio), abs(fraction))
            self.assert_is(-(-ratio), fraction)

    def test_objects_do_not_change(self):
        for ratio, fraction in pairs():
            ratio + 1, 1 - ratio, ratio * ratio, -ratio, abs(ratio), str(ratio), ratio.is_less(2), ratio.divided(3)
            self.assert_is(ratio, fraction)
            total = ratio
            total += ratio
            total -= 1
            total *= 2
            self.assert_is(total, (fraction + fraction - 1) * 2)
            self.assert_is(ratio, fraction)

    def test_equal_ones(self):
        for (one, first), (other, second) in itertools.product(pairs(), repeat=2):
            self.assertIs(one == other, first == second)
            self.assertIs(one != other, first != second)
        self.assertTrue(Ratio(1, 3) + Ratio(1, 6) == Ratio(-5, -10) == Ratio(1) - Ratio(1, 2))
        self.assertFalse(Ratio(1, 3) == Ratio(1, 4))
        self.assertFalse(Ratio(1, 3) == Ratio(2, 3))

    def test_beside_values_of_other_classes(self):
        # No object of the package is equal to a value of another class: an integer is one, too.
        for number in (0, 1, -2, GREAT):
            self.assertFalse(Ratio(number) == number)
            self.assertTrue(Ratio(number) != number)
            self.assertFalse(number == Ratio(number))
        for value in odd_values() + ["1/2", "1", (1, 2), [1, 2], Tree.of("ab", []), Rule([], []), b"1", 0, 1]:
            for ratio in (Ratio(0), Ratio(1), Ratio(1, 2)):
                self.assertFalse(ratio == value)
                self.assertTrue(ratio != value)

    def test_less(self):
        for (one, first), (other, second) in itertools.product(pairs(), repeat=2):
            self.assertIs(one.is_less(other), first < second)
        for (ratio, fraction), number in itertools.product(pairs(), NUMBERS):
            self.assertIs(ratio.is_less(number), fraction < number)
        self.assertFalse(Ratio(1, 2).is_less(Ratio(2, 4)))
        self.assertTrue(Ratio(-1, 2).is_less(Ratio(-1, 3)))
        self.assertFalse(Ratio(2).is_less(2))

    def test_divided(self):
        for (one, first), (other, second) in itertools.product(pairs()[::2], pairs()[::3]):
            if second != 0:
                self.assert_is(one.divided(other), first / second)
        for (ratio, fraction), number in itertools.product(pairs(), NUMBERS):
            if number != 0:
                self.assert_is(ratio.divided(number), fraction / number)
        self.assertEqual(str(Ratio(1, 2).divided(-3)), "-1/6")
        self.assertEqual(str(Ratio(1, 2).divided(Ratio(-3, 7))), "-7/6")

    def test_as_strings(self):
        for told, text in ((Ratio(3, 2), "3/2"), (Ratio(4, 2), "2"), (Ratio(0, -7), "0"), (Ratio(-3, 6), "-1/2"),
                           (Ratio(3, -1), "-3"), (Ratio(GREAT, 10 ** 39), f"{GREAT}/{10 ** 39}"),
                           (Ratio(-GREAT), f"-{GREAT}")):
            self.assertEqual(str(told), text)
            self.assertIs(type(str(told)), str)
        great = 10 ** 3999 + 1
        self.assertEqual(str(Ratio(great, great - 1)), f"{great}/{great - 1}")
        self.assertEqual(str(Ratio(-great)), f"-{great}")

    def test_nothing_over_zero(self):
        for number in NUMBERS:
            self.assert_error(BadOver, {}, Ratio, number, 0)
        for ratio, _ in pairs():
            self.assert_error(BadOver, {}, ratio.divided, 0)
            self.assert_error(BadOver, {}, ratio.divided, Ratio(0))
            self.assert_error(BadOver, {}, ratio.divided, Ratio(0, -5))
            self.assert_error(BadOver, {}, ratio.divided, ratio - ratio)

    def test_other_values_have_no_sums(self):
        for value in (None, "1", [1], (1, 2), {}):
            for call in (lambda: Ratio(1) + value, lambda: value + Ratio(1), lambda: Ratio(1) - value,
                         lambda: value - Ratio(1), lambda: Ratio(1) * value, lambda: value * Ratio(1)):
                self.assertRaises(TypeError, call)

    def test_defined_in_its_file_and_class(self):
        self.assertEqual(Ratio.__module__, "lettertrees.ratios")
        for name in ("__init__", "__add__", "__radd__", "__sub__", "__rsub__", "__mul__", "__rmul__", "__neg__",
                     "__abs__",
                     "__eq__", "__str__", "is_less", "divided"):
            self.assertIn(name, vars(Ratio))
        self.assertIs(ratios.Ratio, Ratio)


if __name__ == "__main__":
    unittest.main()
