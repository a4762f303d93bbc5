"""Fractions of integers of any length."""

from math import gcd, lcm

from nogroupleaves.errors import BadRatio


class Ratio:
    """A fraction: a numerator and a positive denominator, in lowest terms."""

    def __init__(self, num, den=1):
        if den <= 0:
            raise BadRatio("the denominator is not positive")
        shared = gcd(num, den)
        self.num = num // shared
        self.den = den // shared

    def __add__(self, other):
        return Ratio(self.num * other.den + other.num * self.den, self.den * other.den)

    def __sub__(self, other):
        return Ratio(self.num * other.den - other.num * self.den, self.den * other.den)

    def __mul__(self, other):
        return Ratio(self.num * other.num, self.den * other.den)

    def __eq__(self, other):
        return isinstance(other, Ratio) and self.num == other.num and self.den == other.den

    def __str__(self):
        if self.den == 1:
            return str(self.num)
        return f"{self.num}/{self.den}"

    def less(self, other):
        """True if this fraction is less than the other one."""
        return self.num * other.den < other.num * self.den

    def over(self, other):
        """The quotient of this fraction and the other one."""
        if other.num == 0:
            raise BadRatio("a division by 0")
        if other.num < 0:
            # A denominator is positive, so the sign of the divisor goes to the numerator.
            return Ratio(-self.num * other.den, -other.num * self.den)
        return Ratio(self.num * other.den, other.num * self.den)


def sum_of(ratios):
    """The sum of the fractions, 0 if there are none."""
    return sum(ratios, start=Ratio(0))


def over_one_den(ratios):
    """A pair of the list of the numerators of the fractions over one denominator, and that denominator."""
    den = 1
    for ratio in ratios:
        den = lcm(den, ratio.den)
    return [ratio.num * (den // ratio.den) for ratio in ratios], den
