import copy
import unittest
from fractions import Fraction
from itertools import permutations, product
from random import Random

from nogroupleaves.errors import BadTable
from nogroupleaves.house import House, house_text, read_house
from nogroupleaves.ratio import Ratio
from nogroupleaves.table import Table, acting, best_split, complaint, gains, holds_on, table_of
from plans import best_of, can_act, groups_of, random_houses
from samples import GREATEST, SAMPLES, TALKS, USUAL
from tables import all_tables, fraction, majority_table, ratio, ratios, table_by, table_from

# Members 1 and 2 cannot act together.
EARNINGS = {(0,): 1, (0, 1): 5, (0, 1, 2): Fraction(17, 2), (0, 2): 0, (1,): Fraction(-1, 2), (2,): 3}
FEW = table_from(EARNINGS)
WHOLE = (0, 1, 2)


def rows_of(*groups):
    return [(group, Ratio(at)) for at, group in enumerate(groups)]


class TableTest(unittest.TestCase):
    def test_fields(self):
        rows = tuple((group, ratio(EARNINGS[group])) for group in sorted(EARNINGS))
        for table in (Table(3, rows), Table(3, list(rows)), Table(count=3, rows=[list(row) for row in rows])):
            self.assertEqual(table.count, 3)
            self.assertEqual(table.rows, rows)
            self.assertIs(type(table.rows), tuple)
            for row in table.rows:
                self.assertIs(type(row), tuple)
                self.assertIs(type(row[0]), tuple)
                self.assertIsInstance(row[1], Ratio)

    def test_each_count(self):
        for count in range(1, 6):
            least = [(member,) for member in range(count)] + [tuple(range(count))]
            table = Table(count, rows_of(*sorted(set(least))))
            self.assertEqual((table.count, len(table.rows)), (count, len(set(least))))
            self.assertEqual(len(Table(count, rows_of(*groups_of(count))).rows), 2 ** count - 1)

    def test_equal(self):
        tables = [pair[0] for pair in all_tables(5)]
        for table in tables:
            self.assertTrue(table == Table(table.count, list(table.rows)))
            self.assertFalse(table != Table(table.count, table.rows))
        for other in tables:
            for table in tables:
                same = (table.count, table.rows) == (other.count, other.rows)
                self.assertIs(table == other, same)
                self.assertIs(table != other, not same)

    def test_unequal(self):
        for group in EARNINGS:
            self.assertFalse(FEW == table_from({**EARNINGS, group: 100}))
        self.assertFalse(FEW == table_from({**EARNINGS, (1, 2): 0}))
        self.assertFalse(table_by(2, len) == table_by(3, len))
        for other in (None, 0, FEW.rows, (FEW.count, FEW.rows)):
            self.assertFalse(FEW == other)

    def test_earning_of_groups_that_can_act(self):
        for group, earning in EARNINGS.items():
            self.assertEqual(FEW.earning(group), ratio(earning))
        self.assertEqual(FEW.earning(group=(0, 1)), Ratio(5))

    def test_earning_of_groups_that_cannot_act(self):
        for group in ((1, 2), (3,), (0, 3), (0, 1, 2, 3)):
            self.assertIsNone(FEW.earning(group))

    def test_earning_of_no_groups(self):
        for group in ((), (1, 0), (0, 0), (-1,), (2, 1, 0), (0, 1, 1)):
            self.assertIsNone(FEW.earning(group))


class BadTableTest(unittest.TestCase):
    def check(self, count, groups, what):
        with self.assertRaises(BadTable) as caught:
            Table(count, rows_of(*groups))
        self.assertEqual(caught.exception.what, what)

    def test_count(self):
        for count in (0, 6, -1, 7, 100):
            self.check(count, [(0,)], "count")
            self.check(count, groups_of(6), "count")
            self.check(count, [], "count")

    def test_group(self):
        for group in ((), (1, 0), (0, 0), (-1,), (-1, 0), (3,), (0, 3), (0, 2, 1), (0, 1, 1), (0, 1, 2, 3), (2, 1, 0)):
            for at in range(4):
                groups = [(0,), (0, 1, 2), (1,), (2,)]
                self.check(3, groups[:at] + [group] + groups[at + 1:], "group")
                self.check(3, groups[:at] + [group] + groups[at:], "group")

    def test_order(self):
        right = [(0,), (0, 1, 2), (1,), (2,)]
        for groups in permutations(right):
            if list(groups) == right:
                self.assertEqual(len(Table(3, rows_of(*groups)).rows), 4)
            else:
                self.check(3, groups, "order")

    def test_order_is_that_of_tuples(self):
        self.check(3, [(0,), (1,), (2,), (0, 1, 2)], "order")
        self.check(3, [(0,), (0, 1), (0, 2), (0, 1, 2), (1,), (2,)], "order")

    def test_the_same_group_twice(self):
        right = [(0,), (0, 1, 2), (1,), (2,)]
        for at in range(4):
            self.check(3, right[:at] + [right[at]] + right[at:], "order")

    def test_single(self):
        for count in range(2, 6):
            for member in range(count):
                self.check(count, [group for group in groups_of(count) if group != (member,)], "single")

    def test_whole(self):
        for count in range(2, 6):
            self.check(count, groups_of(count)[:count - 1] + groups_of(count)[count:], "whole")
            self.check(count, [(member,) for member in range(count)], "whole")

    def test_the_only_member_is_told_as_single(self):
        self.check(1, [], "single")

    def test_first_of_several_faults(self):
        # Each list has the fault that is told and all those behind it, or some of them.
        self.check(0, [(1, 0), (0,), (0,)], "count")
        self.check(6, [(), (5,), (4,)], "count")
        self.check(3, [(1,), (0,), (1, 0)], "group")
        self.check(3, [(2,), (1,), (0, 3)], "group")
        self.check(3, [(0,), (0,), ()], "group")
        self.check(3, [()], "group")
        self.check(3, [(1,), (0,)], "order")
        self.check(3, [(0,), (0,)], "order")
        self.check(3, [(0,), (1,), (2,), (0, 1, 2), (0, 1)], "order")
        self.check(3, [(0, 1, 2), (0,)], "order")
        self.check(3, [(0,), (1,)], "single")
        self.check(3, [], "single")
        self.check(3, [(0,), (0, 1), (1,)], "single")

    def test_all_lists_of_groups(self):
        # Point 11, read from the top: the first sentence that applies.
        groups = ((), (0,), (0, 1), (1,), (1, 0), (2,))
        for size in range(4):
            for chosen in product(groups, repeat=size):
                if any(group in ((), (1, 0), (2,)) for group in chosen):
                    what = "group"
                elif list(chosen) != sorted(set(chosen)):
                    what = "order"
                elif (0,) not in chosen or (1,) not in chosen:
                    what = "single"
                elif (0, 1) not in chosen:
                    what = "whole"
                else:
                    self.assertEqual(Table(2, rows_of(*chosen)).count, 2)
                    continue
                self.check(2, chosen, what)


class ActingTest(unittest.TestCase):
    def test_without_talks(self):
        for count in range(1, 6):
            names = ("a", "b", "c", "d", "e")[:count]
            house = House(("g",), [(name, ()) for name in names], (), (), ())
            self.assertEqual(acting(house), groups_of(count))

    def test_with_talks(self):
        house = read_house("good g member a member b member c talk a c")
        self.assertEqual(acting(house), [(0,), (0, 1, 2), (0, 2), (1,), (2,)])
        self.assertEqual(acting(house=house), acting(house))

    def test_connected_through_a_member_outside(self):
        # Members 0 and 2 talk with 1 only: together they can act with 1, but not without.
        house = read_house("good g member a member b member c member d talk a b talk b c")
        self.assertEqual(
            acting(house), [(0,), (0, 1), (0, 1, 2), (0, 1, 2, 3), (1,), (1, 2), (2,), (3,)]
        )

    def test_connected_in_several_steps(self):
        house = read_house("good g member a member b member c member d member e talk c d talk a e talk b c talk d e")
        self.assertIn((0, 1, 2, 3, 4), acting(house))
        self.assertIn((1, 2, 3, 4), acting(house))
        self.assertIn((0, 2, 3, 4), acting(house))
        self.assertNotIn((0, 1, 2, 3), acting(house))
        self.assertNotIn((0, 1), acting(house))

    def test_whole_can_always_act(self):
        for text in (TALKS[0], "good g member a member b member c talk b c"):
            house = read_house(text)
            self.assertIn(tuple(range(len(house.members))), acting(house))

    def test_one_member(self):
        self.assertEqual(acting(read_house("good g member a")), [(0,)])

    def test_all_talks(self):
        self.assertEqual(acting(read_house(GREATEST[0])), groups_of(5))

    def test_like_by_friends(self):
        for house in random_houses(200) + [read_house(text) for text, _ in SAMPLES]:
            expected = [group for group in groups_of(len(house.members)) if can_act(house, group)]
            self.assertEqual(acting(house), expected, house_text(house))

    def test_list_can_be_changed(self):
        for text in ("good g member a member b", USUAL[0]):
            house = read_house(text)
            expected = acting(house)
            handed_out = acting(house)
            handed_out.append((7,))
            handed_out[0] = None
            self.assertEqual(acting(house), expected)


class TableOfTest(unittest.TestCase):
    def test_like_all_plans(self):
        for house in random_houses(40):
            before = copy.deepcopy(house)
            groups = [group for group in groups_of(len(house.members)) if can_act(house, group)]
            rows = tuple((group, Ratio(best_of(house, group)[0])) for group in groups)
            table = table_of(house)
            self.assertIsInstance(table, Table)
            self.assertEqual((table.count, table.rows), (len(house.members), rows))
            self.assertEqual(house, before)

    def test_written_out(self):
        house = read_house(
            "good wood good nail member ann has wood 2 member bob has nail 1 member cyd has wood 1"
            " talk ann bob talk bob cyd order desk pays 9 takes wood 3 takes nail 1"
            " order seat pays 4 takes wood 2 order toy pays 3 takes wood 1 takes nail 1"
        )
        earnings = {(0,): 4, (0, 1): 4, (0, 1, 2): 9, (1,): 0, (1, 2): 3, (2,): 0}
        self.assertEqual(table_of(house=house), table_from(earnings))

    def test_largest_house(self):
        table = table_of(read_house(GREATEST[0]))
        self.assertEqual(len(table.rows), 31)
        self.assertEqual([row[0] for row in table.rows], groups_of(5))


class ComplaintTest(unittest.TestCase):
    def test_written_out(self):
        payments = ratios(2, Fraction(1, 2), 6)
        expected = {(0,): -1, (0, 1): Fraction(5, 2), (0, 1, 2): 0, (0, 2): -8, (1,): -1, (2,): -3}
        for group, number in expected.items():
            self.assertEqual(complaint(FEW, payments, group), ratio(number))
        self.assertEqual(complaint(table=FEW, payments=payments, group=(0, 1)), ratio(Fraction(5, 2)))

    def test_of_the_whole(self):
        self.assertEqual(complaint(FEW, ratios(0, 0, 0), WHOLE), ratio(Fraction(17, 2)))
        self.assertEqual(complaint(FEW, ratios(10, 0, -1), WHOLE), ratio(Fraction(-1, 2)))

    def test_like_fractions(self):
        for table, payments in all_tables(20):
            for group, earning in table.rows:
                expected = fraction(earning) - sum(fraction(payments[member]) for member in group)
                self.assertEqual(fraction(complaint(table, payments, group)), expected)


class HoldTest(unittest.TestCase):
    def test_gains(self):
        self.assertEqual(gains(FEW, ratios(2, Fraction(1, 2), 6)), [(0, 1)])
        self.assertEqual(gains(FEW, ratios(0, 0, 0)), [(0,), (0, 1), (2,)])
        self.assertEqual(gains(table=FEW, payments=ratios(-9, -9, -9)), [(0,), (0, 1), (0, 2), (1,), (2,)])

    def test_no_gain_without_more(self):
        # Each of these groups is paid its earning, to the last bit or not.
        self.assertEqual(gains(FEW, ratios(1, 4, 3)), [])
        self.assertEqual(gains(FEW, ratios(1, 4 - Fraction(1, 10 ** 30), 3)), [(0, 1)])

    def test_the_whole_never_gains(self):
        for table, _ in all_tables(10):
            self.assertNotIn(tuple(range(table.count)), gains(table, ratios(*[-10 ** 30] * table.count)))

    def test_one_member(self):
        table = table_from({(0,): 3})
        self.assertEqual(gains(table, ratios(0)), [])
        for pay, holds in ((3, True), (2, False), (4, False)):
            self.assertIs(holds_on(table, ratios(pay)), holds)

    def test_holds(self):
        self.assertIs(holds_on(FEW, ratios(1, 4, Fraction(7, 2))), True)
        self.assertIs(holds_on(FEW, ratios(2, Fraction(1, 2), 6)), False)
        self.assertIs(holds_on(table=FEW, payments=ratios(1, Fraction(9, 2), 3)), True)

    def test_whole_not_paid_exactly(self):
        for left_over in (1, -1, Fraction(1, 10 ** 30), Fraction(-1, 10 ** 30)):
            payments = ratios(1 + left_over, 4, Fraction(7, 2))
            self.assertIs(holds_on(FEW, payments), False)
        self.assertIs(holds_on(FEW, ratios(9, 9, 9)), False)

    def test_groups_that_cannot_act_do_not_count(self):
        with_pair = table_from({**EARNINGS, (1, 2): 8})
        self.assertIs(holds_on(with_pair, ratios(1, 4, Fraction(7, 2))), False)
        self.assertEqual(gains(with_pair, ratios(1, 4, Fraction(7, 2))), [(1, 2)])

    def test_list_can_be_changed(self):
        payments = ratios(0, 0, 0)
        handed_out = gains(FEW, payments)
        handed_out.clear()
        self.assertEqual(gains(FEW, payments), [(0,), (0, 1), (2,)])

    def test_like_fractions(self):
        source = Random(3)
        for table, payments in all_tables(40):
            whole = tuple(range(table.count))
            exact = [fraction(pay) for pay in payments]
            if source.random() < 0.5:
                exact[0] += fraction(table.earning(whole)) - sum(exact)
            payments = ratios(*exact)
            expected = [
                group for group, earning in table.rows
                if group != whole and fraction(earning) > sum(exact[member] for member in group)
            ]
            self.assertEqual(gains(table, payments), expected)
            holds = not expected and sum(exact) == fraction(table.earning(whole))
            self.assertIs(holds_on(table, payments), holds)


def splits_of(table):
    """All splits, found by giving each member the number of its group."""
    found = set()
    for numbers in product(range(table.count), repeat=table.count):
        parts = {}
        for member, number in enumerate(numbers):
            parts.setdefault(number, []).append(member)
        split = tuple(sorted(tuple(part) for part in parts.values()))
        if all(table.earning(group) is not None for group in split):
            found.add(split)
    return found


class BestSplitTest(unittest.TestCase):
    def check(self, table, total, split):
        found = best_split(table)
        self.assertIs(type(found), tuple)
        self.assertEqual(found, (ratio(total), split))

    def test_greatest_sum(self):
        self.check(FEW, Fraction(17, 2), (WHOLE,))
        self.check(table_from({**EARNINGS, (0, 2): 10}), Fraction(19, 2), ((0, 2), (1,)))
        self.check(table_from({**EARNINGS, (1, 2): 8}), 9, ((0,), (1, 2)))
        self.check(table_from({**EARNINGS, WHOLE: 7}), 8, ((0, 1), (2,)))
        self.check(table_from({**EARNINGS, (1,): 8}), 12, ((0,), (1,), (2,)))

    def test_by_name(self):
        self.assertEqual(best_split(table=FEW), (ratio(Fraction(17, 2)), (WHOLE,)))

    def test_fewest_groups(self):
        for count in range(1, 6):
            self.check(table_by(count, lambda group: 0), 0, (tuple(range(count)),))
            self.check(table_by(count, lambda group: 2 * len(group)), 2 * count, (tuple(range(count)),))
        self.check(table_from({(0,): 1, (0, 1): 2, (0, 1, 2): 0, (1,): 1, (2,): 1}), 3, ((0, 1), (2,)))
        # The split of two groups stands behind those of three and of four that earn as much.
        earnings = {group: 0 for group in groups_of(4)}
        earnings.update({(0,): 1, (1,): 1, (2,): 1, (3,): 1, (0, 1): 2, (0, 3): 2, (1, 2): 2})
        self.check(table_from(earnings), 4, ((0, 3), (1, 2)))

    def test_first_as_a_tuple(self):
        self.check(majority_table(3), 1, (WHOLE,))
        equal = {group: 1 if len(group) == 2 else 0 for group in groups_of(3)}
        self.check(table_from(equal), 1, ((0,), (1, 2)))
        self.check(table_from({**equal, (1, 2): 0}), 1, ((0, 1), (2,)))
        pairs = {group: 1 if len(group) == 2 else 0 for group in groups_of(4)}
        self.check(table_from(pairs), 2, ((0, 1), (2, 3)))
        self.check(table_from({**pairs, (2, 3): 0}), 2, ((0, 2), (1, 3)))

    def test_negative_earnings(self):
        self.check(table_by(3, lambda group: -len(group) ** 2), -3, ((0,), (1,), (2,)))
        self.check(table_by(3, lambda group: -1), -1, (WHOLE,))

    def test_only_groups_that_can_act(self):
        self.check(table_from({(0,): 1, (0, 1, 2): 0, (1,): 1, (2,): 1}), 3, ((0,), (1,), (2,)))

    def test_like_all_splits(self):
        for table, _ in all_tables(30):
            exact = {group: fraction(earning) for group, earning in table.rows}
            ranked = sorted((-sum(exact[group] for group in split), len(split), split) for split in splits_of(table))
            self.check(table, -ranked[0][0], ranked[0][2])


class CopyTest(unittest.TestCase):
    def test_lists_are_copied(self):
        rows = [[group, ratio(EARNINGS[group])] for group in sorted(EARNINGS)]
        table = Table(3, rows)
        rows[0][1] = Ratio(99)
        rows[1].append("more")
        rows.pop()
        self.assertEqual(table, FEW)

    def test_arguments_are_not_changed(self):
        for table, payments in all_tables(5):
            rows, pays = [list(row) for row in table.rows], list(payments)
            before = copy.deepcopy((table, rows, pays))
            self.assertEqual(Table(table.count, rows), table)
            for group, _ in table.rows:
                complaint(table, pays, group)
            gains(table, pays)
            holds_on(table, pays)
            best_split(table)
            self.assertEqual((table, rows, pays), before)


if __name__ == "__main__":
    unittest.main()
