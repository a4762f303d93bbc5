import inspect
import unittest
from fractions import Fraction
from math import gcd
from random import Random

from nogroupleaves.errors import BadRatio
from nogroupleaves.ratio import Ratio

LONG = 10 ** 60 - 1
# Numerators and denominators: negative, zero, equal (also written differently), unlike, whole, long ones.
PARTS = (
    (0, 1), (0, 7), (1, 1), (-1, 1), (7, 1), (-7, 1), (14, 2), (1, 2), (2, 4), (-1, 2), (-3, 6), (1, 3), (2, 3),
    (-2, 3), (5, 6), (-5, 6), (6, 4), (9, 3), (9999, 10000), (-9999, 10000), (12, 18), (LONG, 1), (-LONG, 1),
    (1, LONG), (-1, LONG), (LONG, LONG - 1), (LONG - 1, LONG), (LONG, 3), (3, LONG), (10 ** 59, 10 ** 59 + 7),
    (2 ** 190, 6 ** 70), (-(2 ** 190), 6 ** 70), (0, LONG),
)


def long_parts():
    source = Random(7)
    for digits in (1, 2, 5, 20, 60):
        for _ in range(12):
            yield source.randrange(-10 ** digits, 10 ** digits), source.randrange(1, 10 ** digits)


ALL_PARTS = PARTS + tuple(long_parts())


class RatioTest(unittest.TestCase):
    def check(self, ratio, expected):
        self.assertIsInstance(ratio, Ratio)
        self.assertIs(type(ratio.num), int)
        self.assertIs(type(ratio.den), int)
        self.assertEqual((ratio.num, ratio.den), (expected.numerator, expected.denominator))
        self.assertGreater(ratio.den, 0)
        self.assertEqual(gcd(ratio.num, ratio.den), 1)

    def check_pairs(self, worked_out, expected):
        for left in ALL_PARTS:
            for right in ALL_PARTS:
                first, second = Ratio(*left), Ratio(*right)
                result = worked_out(first, second)
                wanted = expected(Fraction(*left), Fraction(*right))
                if isinstance(wanted, bool):
                    self.assertIs(result, wanted, (left, right))
                else:
                    self.check(result, wanted)
                self.check(first, Fraction(*left))
                self.check(second, Fraction(*right))

    def test_made_in_lowest_terms(self):
        for num, den in ALL_PARTS:
            self.check(Ratio(num, den), Fraction(num, den))

    def test_zero_has_the_denominator_1(self):
        for den in (1, 2, 9999, LONG):
            self.assertEqual((Ratio(0, den).num, Ratio(0, den).den), (0, 1))

    def test_whole_numbers(self):
        for num in (0, 7, -7, LONG, -LONG):
            self.check(Ratio(num), Fraction(num))

    def test_arguments_by_name(self):
        self.check(Ratio(num=6, den=4), Fraction(3, 2))
        self.check(Ratio(den=4, num=-6), Fraction(-3, 2))
        self.check(Ratio(num=7), Fraction(7))
        self.check(Ratio(7, den=21), Fraction(1, 3))
        self.assertEqual(list(inspect.signature(Ratio).parameters), ["num", "den"])

    def test_sum(self):
        self.check_pairs(lambda a, b: a + b, lambda a, b: a + b)

    def test_difference(self):
        self.check_pairs(lambda a, b: a - b, lambda a, b: a - b)

    def test_product(self):
        self.check_pairs(lambda a, b: a * b, lambda a, b: a * b)

    def test_less(self):
        self.check_pairs(lambda a, b: a.less(b), lambda a, b: a < b)

    def test_less_by_name(self):
        self.assertIs(Ratio(1, 3).less(other=Ratio(1, 2)), True)

    def test_equal(self):
        self.check_pairs(lambda a, b: a == b, lambda a, b: a == b)

    def test_unequal(self):
        self.check_pairs(lambda a, b: a != b, lambda a, b: a != b)

    def test_equal_within_tuples(self):
        self.assertEqual((Ratio(2, 4), (Ratio(0),)), (Ratio(1, 2), (Ratio(0, 5),)))
        self.assertNotEqual((Ratio(2, 4),), (Ratio(1, 3),))

    def test_over(self):
        for left in ALL_PARTS:
            for right in ALL_PARTS:
                first, second = Ratio(*left), Ratio(*right)
                if right[0] == 0:
                    with self.assertRaises(BadRatio):
                        first.over(second)
                else:
                    self.check(first.over(second), Fraction(*left) / Fraction(*right))
                self.check(first, Fraction(*left))
                self.check(second, Fraction(*right))

    def test_over_by_name(self):
        self.check(Ratio(1, 3).over(other=Ratio(-1, 2)), Fraction(-2, 3))

    def test_with_itself(self):
        ratio = Ratio(-3, 4)
        self.check(ratio + ratio, Fraction(-3, 2))
        self.check(ratio - ratio, Fraction(0))
        self.check(ratio * ratio, Fraction(9, 16))
        self.check(ratio.over(ratio), Fraction(1))
        self.assertIs(ratio.less(ratio), False)
        self.check(ratio, Fraction(-3, 4))

    def test_str(self):
        for num, den in ALL_PARTS:
            self.assertEqual(str(Ratio(num, den)), str(Fraction(num, den)))

    def test_str_written_out(self):
        for ratio, text in (
            (Ratio(0, 9), "0"), (Ratio(7), "7"), (Ratio(-7), "-7"), (Ratio(6, 4), "3/2"), (Ratio(-6, 4), "-3/2"),
            (Ratio(8, 4), "2"), (Ratio(-8, 4), "-2"), (Ratio(1, LONG), "1/" + "9" * 60), (Ratio(-LONG), "-" + "9" * 60),
        ):
            self.assertEqual(str(ratio), text)

    def test_bad_denominators(self):
        for num in (0, 1, -1, LONG):
            for den in (0, -1, -7, -LONG):
                with self.assertRaises(BadRatio):
                    Ratio(num, den)
                with self.assertRaises(BadRatio):
                    Ratio(num=num, den=den)

    def test_chains_are_exact(self):
        total, wanted = Ratio(0), Fraction(0)
        for den in range(1, 60):
            total, wanted = total + Ratio(1, den), wanted + Fraction(1, den)
            self.check(total, wanted)
        for den in range(1, 60):
            total = total - Ratio(1, den)
        self.check(total, Fraction(0))


if __name__ == "__main__":
    unittest.main()
