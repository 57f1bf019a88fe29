"""Point 2: fractions."""

import unittest
from fractions import Fraction

from tellsnone import ratio
from tellsnone.errors import BadBound
from tellsnone.ratio import Ratio

NUMS = (-12, -7, -6, -1, 0, 1, 2, 6, 9, 10 ** 40)
DENS = (1, 2, 3, 6, 12, 35)
PAIRS = [(num, den) for num in NUMS for den in DENS]


def parts(value):
    return (value.num, value.den)


def exact(value):
    return (value.numerator, value.denominator)


class TestRatio(unittest.TestCase):

    def test_lowest_terms(self):
        for num, den in PAIRS:
            self.assertEqual(parts(Ratio(num, den)), exact(Fraction(num, den)))
        self.assertEqual(parts(Ratio(6, 4)), (3, 2))
        self.assertEqual(parts(Ratio(-6, 4)), (-3, 2))
        self.assertEqual(parts(Ratio(8, 4)), (2, 1))

    def test_zero_has_the_denominator_one(self):
        for den in (1, 2, 64, 10 ** 30):
            self.assertEqual(parts(Ratio(0, den)), (0, 1))
        self.assertEqual(parts(Ratio(3, 7) - Ratio(6, 14)), (0, 1))
        self.assertEqual(parts(Ratio(-3, 7) + Ratio(3, 7)), (0, 1))
        self.assertEqual(parts(Ratio(0) * Ratio(3, 7)), (0, 1))

    def test_denominator_may_be_left_out(self):
        for num in NUMS:
            self.assertEqual(parts(Ratio(num)), (num, 1))

    def test_names_of_the_arguments(self):
        self.assertEqual(parts(Ratio(num=3, den=9)), (1, 3))
        self.assertTrue(Ratio(1, 3).below(other=Ratio(1, 2)))

    def test_denominator_that_is_not_positive(self):
        for num in (-4, 0, 1, 4):
            for den in (0, -1, -2, -10 ** 20):
                with self.assertRaises(BadBound):
                    Ratio(num, den)

    def test_operators_are_exact(self):
        for num, den in PAIRS:
            for second, other in PAIRS:
                left, right = Ratio(num, den), Ratio(second, other)
                one, two = Fraction(num, den), Fraction(second, other)
                self.assertEqual(parts(left + right), exact(one + two))
                self.assertEqual(parts(left - right), exact(one - two))
                self.assertEqual(parts(left * right), exact(one * two))

    def test_comparisons_are_exact(self):
        for num, den in PAIRS:
            for second, other in PAIRS:
                left, right = Ratio(num, den), Ratio(second, other)
                one, two = Fraction(num, den), Fraction(second, other)
                self.assertIs(left == right, one == two)
                self.assertIs(left != right, one != two)
                self.assertIs(left.below(right), one < two)

    def test_close_to_each_other(self):
        many = 10 ** 50
        self.assertTrue(Ratio(many - 1, many).below(Ratio(many, many + 1)))
        self.assertFalse(Ratio(many, many + 1).below(Ratio(many - 1, many)))
        self.assertFalse(Ratio(many - 1, many) == Ratio(many, many + 1))
        self.assertEqual(parts(Ratio(1, many) + Ratio(1)), (many + 1, many))

    def test_equal_values(self):
        self.assertTrue(Ratio(2, 4) == Ratio(1, 2))
        self.assertFalse(Ratio(1, 2).below(Ratio(2, 4)))
        self.assertFalse(Ratio(-1, 2) == Ratio(1, 2))
        self.assertTrue(Ratio(-1, 2).below(Ratio(0)))

    def test_other_values_are_not_equal(self):
        for value in (1, "1", None, (1, 1)):
            self.assertFalse(Ratio(1) == value)

    def test_written(self):
        cases = (
            (Ratio(0), "0"), (Ratio(0, 5), "0"), (Ratio(3), "3"), (Ratio(-3), "-3"), (Ratio(6, 3), "2"),
            (Ratio(6, 4), "3/2"), (Ratio(-6, 4), "-3/2"), (Ratio(1, 64), "1/64"), (Ratio(-1, 7), "-1/7"),
        )
        for value, text in cases:
            self.assertEqual(str(value), text)
        for num, den in PAIRS:
            self.assertEqual(str(Ratio(num, den)), str(Fraction(num, den)))

    def test_written_in_full_however_long(self):
        for digits in (63, 64, 65, 128, 129, 4300, 4301, 9000):
            zeros = "0" * (digits - 1)
            self.assertEqual(str(Ratio(10 ** (digits - 1))), "1" + zeros)
            self.assertEqual(str(Ratio(-(10 ** (digits - 1)) - 7, 10 ** digits)),
                             "-1" + zeros[1:] + "7/1" + zeros + "0")
            self.assertEqual(str(Ratio(10 ** digits - 1, 10 ** digits)), "9" * digits + "/1" + zeros + "0")

    def test_arguments_stay(self):
        left, right = Ratio(2, 6), Ratio(-3, 4)
        for value in (left + right, left - right, left * right):
            self.assertIsInstance(value, Ratio)
            self.assertIsNot(value, left)
            self.assertIsNot(value, right)
        left.below(right)
        self.assertFalse(left == right)
        self.assertEqual((str(left), str(right)), ("1/3", "-3/4"))

    def test_stands_in_its_file(self):
        self.assertEqual(Ratio.__module__, ratio.__name__)
        self.assertIn("below", vars(Ratio))


if __name__ == "__main__":
    unittest.main()
