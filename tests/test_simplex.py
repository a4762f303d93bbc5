import copy
import unittest
from fractions import Fraction
from itertools import combinations
from math import prod
from random import Random

from nogroupleaves.parts import ascending_tuples, whole_of
from nogroupleaves.ratio import Ratio, over_one_den
from nogroupleaves.simplex import best_weights, rank
from plans import groups_of
from tables import fraction, ratios


def solved(columns, rights):
    """The only weights with which the columns add up to the rights, or None if there are none or several."""
    lines = [[Fraction(column[at]) for column in columns] + [Fraction(rights[at])] for at in range(len(rights))]
    for at in range(len(columns)):
        chosen = next((line for line in lines[at:] if line[at] != 0), None)
        if chosen is None:
            return None
        lines.remove(chosen)
        lines = [
            [a - b * line[at] / chosen[at] for a, b in zip(line, chosen)] for line in lines
        ]
        lines.insert(at, [a / chosen[at] for a in chosen])
    if any(line[-1] != 0 for line in lines[len(columns):]):
        return None
    return [line[-1] for line in lines[:len(columns)]]


def greatest_worth(columns, rights, worths):
    """The greatest worth, found by trying all small choices of columns."""
    found = []
    for size in range(1, len(rights) + 1):
        for chosen in combinations(range(len(columns)), size):
            weights = solved([columns[at] for at in chosen], rights)
            if weights is not None and min(weights) >= 0:
                found.append(sum(weight * fraction(worths[at]) for weight, at in zip(weights, chosen)))
    return max(found) if found else None


class BestWeightsTest(unittest.TestCase):
    def check(self, columns, rights, worths, has_prices=True):
        weights, prices = best_weights(columns, rights, worths)
        weights, prices, exact = [[fraction(part) for part in parts] for parts in (weights, prices, worths)]
        self.assertEqual((len(weights), len(prices)), (len(columns), len(rights)))
        self.assertGreaterEqual(min(weights), 0)
        for at, right in enumerate(rights):
            self.assertEqual(sum(column[at] * weight for column, weight in zip(columns, weights)), right)
        worth = sum(map(prod, zip(weights, exact)))
        if has_prices:
            for column, least in zip(columns, exact):
                self.assertGreaterEqual(sum(map(prod, zip(column, prices))), least)
            self.assertEqual(sum(map(prod, zip(rights, prices))), worth)
        return worth

    def test_written_out(self):
        self.assertEqual(self.check([[1]], [3], ratios(Fraction(2, 7))), Fraction(6, 7))
        self.assertEqual(self.check([[1, 0], [0, 1], [1, 1]], [1, 1], ratios(1, 1, 3)), 3)
        self.assertEqual(self.check([[1, 0], [0, 1], [1, 1]], [1, 1], ratios(-1, -1, -3)), -2)
        self.assertEqual(self.check([[1, 1, 0], [0, 1, 1], [1, 0, 1]], [1, 1, 1], ratios(1, 1, 1)), Fraction(3, 2))

    def test_places_that_follow_from_others(self):
        self.assertEqual(self.check([[1, 1], [2, 2], [3, 3]], [6, 6], ratios(1, 5, 6), False), 15)
        self.assertEqual(self.check([[1, 1, 0], [0, 0, 1]], [1, 1, 1], ratios(2, 3), False), 5)

    def test_like_all_choices_of_columns(self):
        source = Random(12)
        for _ in range(300):
            places = source.randint(1, 4)
            # With a column for each place there are weights for rights of 1, and for all rights near to them.
            columns = [[int(at == place) for at in range(places)] for place in range(places)]
            for _ in range(source.randint(0, 5)):
                columns.append([source.randint(0, 1) for _ in range(places)])
                if not any(columns[-1]):
                    columns[-1][0] = 1
            source.shuffle(columns)
            worths = ratios(*[Fraction(source.randint(-6, 6), source.randint(1, 3)) for _ in columns])
            self.assertEqual(
                self.check(columns, [1] * places, worths), greatest_worth(columns, [1] * places, worths)
            )

    def test_some_columns_of_groups(self):
        # Fewer columns, which perhaps cannot reach all rights, so that prices are not asked for.
        source = Random(13)
        tried = 0
        for _ in range(300):
            columns = [[source.randint(0, 1) for _ in range(4)] for _ in range(4)]
            columns = [column for column in columns if any(column)]
            worths = ratios(*[source.randint(-6, 6) for _ in columns])
            expected = greatest_worth(columns, [1] * 4, worths)
            if expected is not None:
                self.assertEqual(self.check(columns, [1] * 4, worths, False), expected)
                tried += 1
        self.assertGreater(tried, 20)

    def test_arguments_are_not_changed(self):
        columns, rights, worths = [[1, 0], [0, 1], [1, 1]], [1, 1], list(ratios(1, Fraction(1, 2), 3))
        before = copy.deepcopy((columns, rights, worths))
        best_weights(columns, rights, worths)
        rank(columns)
        self.assertEqual((columns, rights, worths), before)


class RankTest(unittest.TestCase):
    def test_written_out(self):
        for vectors, expected in (
            ([], 0), ([[0, 0]], 0), ([[1, 0], [1, 0]], 1), ([[1, 0], [2, 0], [0, 3]], 2), ([[0, 1], [1, 0]], 2),
            ([[1, 1, 0], [0, 1, 1], [1, 0, 1]], 3), ([[1, 1, 0], [0, 1, -1], [1, 0, 1]], 2),
            ([[1, 1, 1, 1], [1, 1, 0, 0], [0, 0, 1, 1]], 2), ([[0, 0], [0, 0], [0, 5]], 1),
        ):
            self.assertEqual(rank(vectors), expected, vectors)


class SmallPartsTest(unittest.TestCase):
    def test_ascending_tuples(self):
        for count in range(7):
            self.assertEqual(ascending_tuples(count), groups_of(count))

    def test_whole(self):
        self.assertEqual([whole_of(count) for count in (1, 2, 5)], [(0,), (0, 1), (0, 1, 2, 3, 4)])

    def test_over_one_den(self):
        self.assertEqual(over_one_den([]), ([], 1))
        self.assertEqual(over_one_den(ratios(0, 3, -4)), ([0, 3, -4], 1))
        self.assertEqual(over_one_den(ratios(Fraction(1, 4), Fraction(-5, 6), 2)), ([3, -10, 24], 12))
        self.assertEqual(over_one_den([Ratio(10 ** 25, 3), Ratio(1, 10 ** 25)]), ([10 ** 50, 3], 3 * 10 ** 25))


if __name__ == "__main__":
    unittest.main()
