"""Points 14 and 15: bounds."""

import copy
import unittest
from fractions import Fraction

from helpers import fraction
from tellsnone.bounds import Bound, nothing
from tellsnone.errors import BadBound
from tellsnone.ratio import Ratio

ZERO, ONE, HALF, THIRD = Ratio(0), Ratio(1), Ratio(1, 2), Ratio(1, 3)


def bound(flat, first, more, limit=None):
    """A bound of fractions and integers."""
    ratios = [Ratio(Fraction(part).numerator, Fraction(part).denominator) for part in (flat, first, more)]
    return Bound(*ratios, limit)


def parts(found):
    return (fraction(found.flat), fraction(found.first), fraction(found.more), found.limit)


class TestBound(unittest.TestCase):

    def test_attributes(self):
        found = Bound(HALF, THIRD, Ratio(1, 5), 7)
        self.assertEqual((found.flat, found.first, found.more, found.limit), (HALF, THIRD, Ratio(1, 5), 7))
        self.assertIsNone(Bound(HALF, THIRD, ONE).limit)
        self.assertIsNone(Bound(HALF, THIRD, ONE, None).limit)
        self.assertEqual(parts(Bound(flat=ONE, first=HALF, more=ZERO, limit=0)), (1, Fraction(1, 2), 0, 0))
        self.assertEqual(parts(bound(2, 3, 4)), (2, 3, 4, None))

    def test_negative_ratios(self):
        for value in (Ratio(-1), Ratio(-1, 10 ** 9), Ratio(-10 ** 9)):
            for at in range(3):
                for limit in (None, 0, 3):
                    ratios = [HALF, HALF, HALF]
                    ratios[at] = value
                    with self.assertRaises(BadBound):
                        Bound(*ratios, limit)
        with self.assertRaises(BadBound):
            Bound(ZERO, ZERO, Ratio(-1, 2))

    def test_limits(self):
        for limit in (-1, -2, -10 ** 9):
            with self.assertRaises(BadBound):
                Bound(ZERO, ZERO, ZERO, limit)
        for limit in (0, 1, 10 ** 9):
            self.assertEqual(Bound(ZERO, ZERO, ZERO, limit).limit, limit)

    def test_nothing(self):
        self.assertIs(type(nothing()), Bound)
        self.assertEqual(parts(nothing()), (0, 0, 0, None))
        for part in (nothing().flat, nothing().first, nothing().more):
            self.assertIs(type(part), Ratio)
        self.assertIsNot(nothing(), nothing())

    def test_equal(self):
        self.assertTrue(Bound(HALF, THIRD, ONE, 7) == Bound(Ratio(2, 4), Ratio(3, 9), Ratio(5, 5), 7))
        self.assertTrue(Bound(HALF, THIRD, ONE) == Bound(HALF, THIRD, ONE, None))
        self.assertFalse(Bound(HALF, THIRD, ONE, 7) != Bound(HALF, THIRD, ONE, 7))
        self.assertTrue(nothing() == nothing())

    def test_one_difference(self):
        one = bound(1, 2, 3, 4)
        for other in (bound(0, 2, 3, 4), bound(1, 1, 3, 4), bound(1, 2, 4, 4), bound(1, 2, 3, 5), bound(1, 2, 3),
                      bound(1, 2, 3, 0), bound(2, 1, 3, 4), bound(1, 3, 2, 4)):
            self.assertFalse(one == other)
            self.assertFalse(other == one)
            self.assertTrue(one != other)
        self.assertFalse(bound(0, 0, 0, 0) == nothing())
        self.assertFalse(nothing() == bound(0, 0, 0, 0))

    def test_other_values_are_not_equal(self):
        for value in (None, 0, (ZERO, ZERO, ZERO, None), ZERO):
            self.assertFalse(nothing() == value)


class TestAt(unittest.TestCase):

    def check(self, found, calls, *expected):
        told = found.at(calls)
        self.assertIs(type(told), Ratio)
        self.assertEqual(fraction(told), Fraction(*expected))

    def test_no_calls(self):
        for found in (bound(0, 0, 0), bound(1, 1, 1), bound(5, 0, 0, 0), bound(Fraction(1, 2), 0, 0, 3)):
            self.check(found, 0, 0)

    def test_parts(self):
        self.check(bound(Fraction(1, 2), 0, 0), 1, 1, 2)
        self.check(bound(Fraction(1, 2), 0, 0), 10 ** 6, 1, 2)
        self.check(bound(0, Fraction(1, 9), 0), 1, 1, 9)
        self.check(bound(0, Fraction(1, 9), 0), 4, 4, 9)
        self.check(bound(0, 0, Fraction(1, 99)), 1, 0)
        self.check(bound(0, 0, Fraction(1, 99)), 2, 1, 99)
        self.check(bound(0, 0, Fraction(1, 99)), 3, 3, 99)
        self.check(bound(0, 0, Fraction(1, 99)), 7, 21, 99)
        self.check(bound(Fraction(1, 7), Fraction(1, 30), Fraction(1, 100)), 5, Fraction(1, 7) + Fraction(5, 30) + Fraction(1, 10))

    def test_around_1(self):
        found = bound(0, Fraction(1, 10), 0)
        for calls, expected in ((9, Fraction(9, 10)), (10, 1), (11, 1), (1000, 1)):
            self.check(found, calls, expected)
        for flat in (Fraction(10 ** 9 - 1, 10 ** 9), 1, Fraction(10 ** 9 + 1, 10 ** 9), 50):
            self.check(bound(flat, 0, 0), 1, min(flat, 1))
        self.check(bound(Fraction(1, 2), Fraction(1, 4), Fraction(1, 4)), 1, 3, 4)
        self.check(bound(Fraction(1, 2), Fraction(1, 4), Fraction(1, 4)), 2, 1)

    def test_limits(self):
        found = bound(0, Fraction(1, 100), 0, 3)
        for calls, expected in ((0, 0), (1, Fraction(1, 100)), (2, Fraction(2, 100)), (3, Fraction(3, 100)), (4, 1), (5, 1)):
            self.check(found, calls, expected)
        self.check(bound(0, 0, 0, 0), 0, 0)
        self.check(bound(0, 0, 0, 0), 1, 1)
        self.check(bound(0, 0, 0, 10 ** 6), 10 ** 6, 0)
        self.check(bound(0, 0, 0, 10 ** 6), 10 ** 6 + 1, 1)
        self.check(bound(9, 9, 9, 3), 2, 1)

    def test_many_calls(self):
        many = 10 ** 6
        self.check(nothing(), many, 0)
        self.check(bound(0, Fraction(1, 3 * many), 0), many, 1, 3)
        self.check(bound(0, 0, Fraction(1, many * many)), many, Fraction(many - 1, 2 * many))
        self.check(bound(Fraction(1, 10), Fraction(1, many ** 2), Fraction(1, many ** 2)), many - 1,
                   Fraction(1, 10) + Fraction(many - 1, many ** 2) + Fraction((many - 1) * (many - 2), 2 * many ** 2))


class TestPlus(unittest.TestCase):

    def check(self, one, other, *expected):
        for first, second in ((one, other), (other, one)):
            found = first.plus(second)
            self.assertIs(type(found), Bound)
            self.assertEqual(parts(found), expected)

    def test_sums(self):
        self.check(bound(Fraction(1, 2), Fraction(1, 3), Fraction(1, 5)), bound(Fraction(1, 3), 2, Fraction(4, 5)),
                   Fraction(5, 6), Fraction(7, 3), 1, None)
        self.check(bound(1, 2, 3), bound(10, 20, 30), 11, 22, 33, None)
        self.check(nothing(), bound(1, 2, 3, 4), 1, 2, 3, 4)
        self.check(nothing(), nothing(), 0, 0, 0, None)

    def test_limits(self):
        self.check(bound(1, 0, 0, 3), bound(0, 0, 0, 5), 1, 0, 0, 3)
        self.check(bound(1, 0, 0, 5), bound(0, 0, 0, 3), 1, 0, 0, 3)
        self.check(bound(1, 0, 0, 3), bound(0, 0, 0, 3), 1, 0, 0, 3)
        self.check(bound(0, 1, 0, 3), bound(0, 0, 1), 0, 1, 1, 3)
        self.check(bound(0, 1, 0, 0), bound(0, 0, 1), 0, 1, 1, 0)
        self.check(bound(0, 1, 0, 0), bound(0, 0, 1, 7), 0, 1, 1, 0)
        self.check(bound(0, 1, 0), bound(0, 0, 1), 0, 1, 1, None)

    def test_arguments_stay_as_they_were(self):
        one, other = bound(1, 2, 3, 4), bound(5, 6, 7)
        before = copy.deepcopy((vars(one), vars(other)))
        one.plus(other=other)
        one.within(asks=3)
        one.at(calls=3)
        self.assertEqual((vars(one), vars(other)), before)


class TestWithin(unittest.TestCase):

    def check(self, found, asks, *expected):
        told = found.within(asks)
        self.assertIs(type(told), Bound)
        self.assertEqual(parts(told), expected)

    def test_no_asks(self):
        for found in (bound(1, 2, 3), bound(1, 2, 3, 4), bound(0, 0, 0, 0), nothing()):
            self.check(found, 0, 0, 0, 0, None)

    def test_one_ask(self):
        self.check(bound(1, 2, 3), 1, 1, 2, 3, None)
        self.check(bound(Fraction(1, 2), Fraction(1, 3), Fraction(1, 5), 7), 1, Fraction(1, 2), Fraction(1, 3), Fraction(1, 5), 7)
        self.check(bound(0, 0, 0, 0), 1, 0, 0, 0, 0)

    def test_two_asks(self):
        self.check(bound(1, 2, 3), 2, 1, 7, 12, None)
        self.check(bound(Fraction(1, 2), Fraction(1, 3), Fraction(1, 5), 8), 2, Fraction(1, 2), Fraction(13, 15), Fraction(4, 5), 4)

    def test_many_asks(self):
        self.check(bound(1, 2, 3), 3, 1, 15, 27, None)
        self.check(bound(0, 0, 1, 100), 10, 0, 45, 100, 10)
        self.check(bound(0, 1, 0, 100), 10, 0, 10, 0, 10)
        self.check(bound(Fraction(1, 9), Fraction(1, 10 ** 9), Fraction(1, 10 ** 9)), 10 ** 3,
                   Fraction(1, 9), Fraction(1000 + 499500, 10 ** 9), Fraction(1, 1000), None)

    def test_limits_that_are_not_divisible(self):
        for limit, asks, expected in ((7, 2, 3), (8, 3, 2), (2, 3, 0), (0, 5, 0), (5, 5, 1), (9, 5, 1), (10 ** 6 + 1, 2, 500000)):
            self.check(bound(1, 0, 0, limit), asks, 1, 0, 0, expected)

    def test_a_context_is_as_many_calls_as_it_asks(self):
        found = bound(Fraction(1, 50), Fraction(1, 7000), Fraction(1, 30000), 60)
        for asks in range(1, 8):
            for calls in range(0, 12):
                self.assertEqual(fraction(found.within(asks).at(calls)), fraction(found.at(asks * calls)), (asks, calls))


if __name__ == "__main__":
    unittest.main()
