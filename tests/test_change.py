import copy
import unittest
from fractions import Fraction
from itertools import permutations
from random import Random

from nogroupleaves.change import reduced, renumbered, scaled
from nogroupleaves.judge import is_right
from nogroupleaves.lines import table_lines
from nogroupleaves.pay import fairest, stay
from nogroupleaves.ratio import Ratio
from nogroupleaves.table import Table, best_split, complaint, gains, holds_on
from plans import groups_of
from tables import all_tables, fraction, majority_table, ratio, ratios, table_by, table_from

TABLES = all_tables(12)
HALF = Fraction(1, 2)
# Members 1 and 2 cannot act together.
FEW = table_from({(0,): 1, (0, 1): 5, (0, 1, 2): Fraction(17, 2), (0, 2): 0, (1,): -HALF, (2,): 3})


def exact_rows(table):
    return {group: fraction(earning) for group, earning in table.rows}


def asked(table, payments):
    """What a table tells."""
    groups = [group for group, _ in table.rows]
    return (
        [table.earning(group) for group in groups_of(table.count)],
        [complaint(table, payments, group) for group in groups],
        gains(table, payments), holds_on(table, payments), best_split(table), table_lines(table), stay(table)[0],
        fairest(table)[1],
    )


class ChangeCase(unittest.TestCase):
    def check(self, table, count, earnings):
        """The table has these earnings, and tells what a table made of them tells."""
        self.assertIsInstance(table, Table)
        rows = tuple((group, ratio(earnings[group])) for group in sorted(earnings))
        self.assertEqual((table.count, table.rows), (count, rows))
        self.assertIs(type(table.rows), tuple)
        for row in table.rows:
            self.assertIs(type(row), tuple)
            self.assertIs(type(row[0]), tuple)
            self.assertIsInstance(row[1], Ratio)
        other = Table(count, rows)
        self.assertTrue(table == other)
        payments = ratios(*[Fraction(member, 3) - 1 for member in range(count)])
        self.assertEqual(asked(table, payments), asked(other, payments))


def scaled_earnings(table, factor, amounts):
    return {
        group: fraction(factor) * earning + sum(fraction(amounts[member]) for member in group)
        for group, earning in exact_rows(table).items()
    }


class ScaledTest(ChangeCase):
    def test_written_out(self):
        half = Fraction(17, 2)
        earnings = {(0,): 12, (0, 1): 19, (0, 1, 2): 20 + half, (0, 2): 4 + half, (1,): -2, (2,): half}
        self.check(scaled(FEW, ratio(2), ratios(10, -1, Fraction(5, 2))), 3, earnings)
        self.check(scaled(table=FEW, factor=ratio(1), amounts=ratios(0, 0, 0)), 3, exact_rows(FEW))
        self.check(
            scaled(FEW, ratio(HALF), ratios(0, 0, 1)), 3,
            {(0,): HALF, (0, 1): Fraction(5, 2), (0, 1, 2): Fraction(21, 4), (0, 2): 1, (1,): Fraction(-1, 4),
             (2,): Fraction(5, 2)},
        )
        self.check(scaled(table_from({(0,): -3}), ratio(Fraction(1, 3)), ratios(5)), 1, {(0,): 4})

    def test_like_fractions(self):
        source = Random(23)
        for table, amounts in TABLES:
            factor = ratio(source.choice((1, 10 ** 25, Fraction(1, 10 ** 25), Fraction(source.randint(1, 9), 7))))
            self.check(scaled(table, factor, amounts), table.count, scaled_earnings(table, factor, amounts))

    def test_there_and_back(self):
        for table, amounts in TABLES:
            less = tuple(Ratio(0) - amount for amount in amounts)
            self.assertEqual(scaled(scaled(table, ratio(1), amounts), ratio(1), less), table)
            none = ratios(*[0] * table.count)
            self.assertEqual(scaled(scaled(table, ratio(7), none), Ratio(1, 7), none), table)

    def test_payments_are_scaled_too(self):
        for table, amounts in TABLES:
            payments = fairest(table)[1]
            expected = tuple(Ratio(5, 3) * pay + amount for pay, amount in zip(payments, amounts))
            other = scaled(table, Ratio(5, 3), amounts)
            self.assertEqual(fairest(other)[1], expected)
            self.assertEqual(holds_on(other, expected), holds_on(table, payments))


class RenumberedTest(ChangeCase):
    def test_written_out(self):
        self.check(renumbered(FEW, (0, 1, 2)), 3, exact_rows(FEW))
        # Member 0 is the one that was 2, member 1 the one that was 0, and member 2 the one that was 1.
        earnings = {(0,): 3, (0, 1): 0, (0, 1, 2): Fraction(17, 2), (1,): 1, (1, 2): 5, (2,): -HALF}
        self.check(renumbered(table=FEW, order=(2, 0, 1)), 3, earnings)
        earnings = {(0,): -HALF, (0, 1, 2): Fraction(17, 2), (0, 2): 5, (1,): 3, (1, 2): 0, (2,): 1}
        self.check(renumbered(FEW, (1, 2, 0)), 3, earnings)
        self.check(renumbered(table_from({(0,): 7}), (0,)), 1, {(0,): 7})

    def test_each_order(self):
        for table, _ in TABLES[::4]:
            exact = exact_rows(table)
            orders = list(permutations(range(table.count)))
            for order in orders[::11] + orders[-1:]:
                earnings = {}
                for group in groups_of(table.count):
                    old = tuple(sorted(order[member] for member in group))
                    if old in exact:
                        earnings[group] = exact[old]
                self.check(renumbered(table, order), table.count, earnings)

    def test_one_order_after_the_other(self):
        source = Random(24)
        for table, _ in TABLES:
            order, behind = (source.sample(range(table.count), table.count) for _ in range(2))
            both = tuple(order[member] for member in behind)
            twice = renumbered(renumbered(table, tuple(order)), tuple(behind))
            self.assertEqual(twice, renumbered(table, both))
            back = tuple(order.index(member) for member in range(table.count))
            self.assertEqual(renumbered(renumbered(table, tuple(order)), back), table)

    def test_payments_are_renumbered_too(self):
        source = Random(25)
        for table, _ in TABLES:
            order = tuple(source.sample(range(table.count), table.count))
            payments = fairest(table)[1]
            self.assertEqual(fairest(renumbered(table, order))[1], tuple(payments[member] for member in order))


def reduced_earnings(table, payments, group):
    """Point 24, word by word, for each group T of the members of the group."""
    exact = exact_rows(table)
    earnings = {}
    for part in groups_of(len(group)):
        chosen = {group[place] for place in part}
        found = []
        for other in exact:
            if set(other) & set(group) == chosen:
                found.append(exact[other] - sum(fraction(payments[member]) for member in set(other) - set(group)))
        if len(part) == len(group):
            earnings[part] = sum(fraction(payments[member]) for member in group)
        elif found:
            earnings[part] = max(found)
    return earnings


class ReducedTest(ChangeCase):
    def test_written_out(self):
        payments = ratios(1, 4, Fraction(7, 2))
        # 0 acts with 2, who is paid 7/2, or alone; 1 acts alone: neither can act with 2 without 0.
        self.check(reduced(FEW, payments, (0, 1)), 2, {(0,): 1, (0, 1): 5, (1,): -HALF})
        self.check(reduced(table=FEW, payments=ratios(1, 4, -2), group=(0, 1)), 2, {(0,): 2, (0, 1): 5, (1,): -HALF})
        # Of three groups with 0, that with 1 is the best one, then all; 2 can act alone or with 0.
        self.check(reduced(FEW, payments, (0, 2)), 2, {(0,): 1, (0, 1): Fraction(9, 2), (1,): 3})
        # 1 and 2 can act with 0 only, but this is the whole group.
        self.check(reduced(FEW, payments, (1, 2)), 2, {(0,): 4, (0, 1): Fraction(15, 2), (1,): 3})
        self.check(reduced(FEW, ratios(-2, 0, 0), (1, 2)), 2, {(0,): 7, (0, 1): 0, (1,): 3})

    def test_the_whole_earns_what_it_is_paid(self):
        for payments in (ratios(0, 0, 0), ratios(1, 2, Fraction(1, 3))):
            paid = sum(fraction(pay) for pay in payments)
            self.check(reduced(FEW, payments, (0, 1, 2)), 3, {**exact_rows(FEW), (0, 1, 2): paid})

    def test_one_member(self):
        for member in range(3):
            self.check(reduced(FEW, ratios(7, -8, HALF), (member,)), 1, {(0,): (7, -8, HALF)[member]})
        self.check(reduced(table_from({(0,): 3}), ratios(5), (0,)), 1, {(0,): 5})

    def test_groups_that_cannot_act_can_act_with_members_outside(self):
        # 0 and 2 cannot act together without 1; in the reduced table they can.
        table = table_from({(0,): 0, (0, 1): 1, (0, 1, 2): 9, (0, 1, 2, 3): 20, (1,): 0, (1, 2): 2, (2,): 0, (3,): 4})
        self.check(
            reduced(table, ratios(1, 2, 3, 14), (0, 2, 3)), 3,
            {(0,): 0, (0, 1): 7, (0, 1, 2): 18, (1,): 0, (2,): 4},
        )
        self.check(reduced(table, ratios(1, 2, 3, 14), (0, 3)), 2, {(0,): 4, (0, 1): 15, (1,): 4})

    def test_of_several_groups_the_one_that_earns_most_counts(self):
        # Member 1 with 0 alone, with 2, with 3 and with both.
        table = table_by(4, lambda group: {(0,): 1, (0, 2): 8, (0, 3): 6, (0, 2, 3): 9}.get(group, 0))
        for payments, earning in (((0, 0, 0, 0), 9), ((0, 0, 2, 2), 6), ((0, 0, 5, 2), 4), ((0, 0, 8, 9), 1),
                                  ((0, 0, -1, -1), 11), ((0, 0, Fraction(20, 3), Fraction(11, 2)), Fraction(4, 3))):
            self.assertEqual(reduced(table, ratios(*payments), (0, 1)).earning((0,)), ratio(earning))

    def test_each_group(self):
        for table, wishes in TABLES[::3]:
            for payments in (wishes, fairest(table)[1]):
                groups = groups_of(table.count)
                for group in groups[::3] + groups[-1:]:
                    self.check(reduced(table, payments, group), len(group), reduced_earnings(table, payments, group))

    def test_the_fairest_payments_stay_the_fairest_ones(self):
        for table, _ in TABLES:
            payments = fairest(table)[1]
            for group in groups_of(table.count):
                other = reduced(table, payments, group)
                left = tuple(payments[member] for member in group)
                self.assertEqual(fairest(other)[1], left)
                if holds_on(table, payments):
                    self.assertIs(holds_on(other, left), True)
                    self.assertIs(is_right(other, ("stay", left)), True)


class FirstTableTest(unittest.TestCase):
    def test_the_first_table_stays(self):
        for table, payments in TABLES:
            given = list(payments)
            order = list(range(table.count))[::-1]
            groups = groups_of(table.count)
            before = copy.deepcopy((table, given, order))
            first = asked(table, payments)
            found = [scaled(table, Ratio(3, 2), given), renumbered(table, order)]
            found += [reduced(table, given, group) for group in groups[::5]]
            kept = copy.deepcopy(found)
            self.assertEqual((table, given, order), before)
            self.assertEqual(asked(table, payments), first)
            given.clear()
            order.clear()
            self.assertEqual(found, kept)

    def test_asked_before_or_not(self):
        for table, payments in TABLES[::5]:
            fresh = Table(table.count, table.rows)
            expected = [scaled(fresh, Ratio(2), payments), reduced(fresh, payments, (0,))]
            asked(table, payments)
            self.assertEqual([scaled(table, Ratio(2), payments), reduced(table, payments, (0,))], expected)

    def test_the_same_again(self):
        table = majority_table(4)
        payments = ratios(1, 2, 3, 4)
        self.assertEqual(reduced(table, payments, (1, 3)), reduced(table, payments, (1, 3)))
        self.assertEqual(scaled(table, ratio(2), payments), scaled(table, ratio(2), payments))
        self.assertEqual(renumbered(table, (3, 1, 0, 2)), renumbered(table, (3, 1, 0, 2)))


if __name__ == "__main__":
    unittest.main()
