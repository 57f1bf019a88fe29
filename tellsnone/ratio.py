"""Fractions in lowest terms (point 2)."""

from math import gcd

from tellsnone.errors import BadBound

CHUNK = 10 ** 64


def decimals(number):
    """A number in decimal digits, also where Python's own `str` refuses its length."""
    if abs(number) < CHUNK:
        return str(number)
    rest = abs(number)
    parts = []
    while rest >= CHUNK:
        rest, part = divmod(rest, CHUNK)
        parts.append(f"{part:064d}")
    parts.append(str(rest))
    parts.append("-" if number < 0 else "")
    return "".join(reversed(parts))


class Ratio:
    """A fraction with the numerator `num` and the positive denominator `den`."""

    def __init__(self, num, den=1):
        if den <= 0:
            raise BadBound("the denominator is not positive")
        common = gcd(num, den)
        self.num = num // common
        self.den = den // common

    def __add__(self, other):
        return Ratio(self.num * other.den + other.num * self.den, self.den * other.den)

    def __sub__(self, other):
        return Ratio(self.num * other.den - other.num * self.den, self.den * other.den)

    def __mul__(self, other):
        return Ratio(self.num * other.num, self.den * other.den)

    def __eq__(self, other):
        return isinstance(other, Ratio) and self.num == other.num and self.den == other.den

    def __str__(self):
        if self.den == 1:
            return f"{decimals(self.num)}"
        return f"{decimals(self.num)}/{decimals(self.den)}"

    def below(self, other):
        """Whether this ratio is smaller than the other one."""
        return self.num * other.den < other.num * self.den
