"""Tables that the tests use, from given earnings and at random."""

from fractions import Fraction
from random import Random

from nogroupleaves.ratio import Ratio
from nogroupleaves.table import Table
from plans import groups_of


def ratio(number):
    exact = Fraction(number)
    return Ratio(exact.numerator, exact.denominator)


def ratios(*numbers):
    return tuple(ratio(number) for number in numbers)


def fraction(number):
    return Fraction(number.num, number.den)


def table_from(earnings):
    """The table with these earnings, a dict from groups to numbers."""
    count = max(len(group) for group in earnings)
    return Table(count, [(group, ratio(earnings[group])) for group in sorted(earnings)])


def table_by(count, earning):
    """The table of all groups, each earning what the function tells."""
    return table_from({group: earning(group) for group in groups_of(count)})


def number_small(source):
    return Fraction(source.randint(-9, 9))


def number_even(source):
    return Fraction(source.randint(0, 1))


def number_fraction(source):
    return Fraction(source.randint(-99999, 99999), source.randint(1, 99999))


def number_huge(source):
    return Fraction(source.choice((0, 1, 3, -1, 10 ** 25, -10 ** 25)), source.choice((1, 1, 2)))


def number_positive(source):
    return Fraction(source.randint(0, 40), source.randint(1, 3))


NUMBERS = (number_small, number_even, number_fraction, number_huge, number_positive)


def random_table(source, number):
    count = source.randint(1, 5)
    share = source.choice((0, 0.3, 0.7, 1, 1))
    earnings = {}
    for group in groups_of(count):
        if len(group) in (1, count) or source.random() < share:
            earnings[group] = number(source)
    whole = tuple(range(count))
    if source.random() < 0.6:
        # So that there are also payments that hold.
        earnings[whole] += 3 * max(abs(earning) for earning in earnings.values())
    return table_from(earnings)


def random_tables(many):
    """Pairs of a table and wishes, of each kind of numbers as many."""
    source = Random(22)
    found = []
    for number in NUMBERS:
        for _ in range(many):
            table = random_table(source, number)
            found.append((table, ratios(*[number(source) for _ in range(table.count)])))
    return found


def glove_table():
    """Two members have a left glove and three a right one; a pair earns 1. Only one payment holds."""
    return table_by(5, lambda group: min(len([m for m in group if m < 2]), len([m for m in group if m >= 2])))


def majority_table(count):
    """Each group of more than half of the members earns 1, so that none of 3 or more stay."""
    return table_by(count, lambda group: 1 if 2 * len(group) > count else 0)


def claims_table(estate, *debts):
    """Each group earns what is left of the estate when all others have got what they claim."""
    def earning(group):
        return max(0, estate - sum(debt for member, debt in enumerate(debts) if member not in group))
    return table_by(len(debts), earning)


def ring_table(count):
    """Only neighbours of a ring, single members and the whole can act."""
    whole = tuple(range(count))
    earnings = {(member,): 0 for member in whole}
    for member in whole:
        earnings[tuple(sorted((member, (member + 1) % count)))] = member + 1
    earnings[whole] = 2 * count
    return table_from(earnings)


def given_tables():
    """Tables whose groups earn equal, additive, negative or few amounts."""
    tables = [glove_table(), claims_table(100, 100, 200, 300), claims_table(200, 100, 200, 300)]
    for count in range(1, 6):
        tables.append(table_by(count, lambda group: 0))
        tables.append(table_by(count, lambda group: 7))
        tables.append(table_by(count, lambda group: -7))
        tables.append(table_by(count, lambda group: sum(group) - 3))
        tables.append(table_by(count, lambda group: len(group) ** 2))
        tables.append(table_by(count, lambda group: Fraction(1, len(group) + 1)))
        tables.append(table_by(count, lambda group: 10 ** 25 if 0 in group else Fraction(1, 3)))
        tables.append(majority_table(count))
        tables.append(table_from({group: 5 for group in groups_of(count) if len(group) in (1, count)}))
    return tables + [ring_table(count) for count in (3, 4, 5)]


def all_tables(many):
    """The given tables with wishes of 0 and others, and random ones."""
    pairs = random_tables(many)
    for table in given_tables():
        pairs.append((table, ratios(*[0] * table.count)))
        pairs.append((table, ratios(*[Fraction(5 * member - 3, 2) for member in range(table.count)])))
    return pairs
