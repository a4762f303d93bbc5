import copy
import unittest
from fractions import Fraction
from itertools import product
from random import Random

from claims import View, claims_of, faults, ratios_in
from nogroupleaves.errors import NoPayments
from nogroupleaves.pay import fairest, least_for, most_for, nearest, stay, subsidy, tax
from nogroupleaves.ratio import Ratio
from nogroupleaves.table import holds_on
from plans import groups_of
from tables import (
    all_tables, claims_table, fraction, glove_table, majority_table, ratio, ratios, ring_table, table_by, table_from,
)

TABLES = all_tables(50)
# Members 1 and 2 cannot act together. Payments hold if they pay 17/2, to 0 and 1 at least 5, and so on.
FEW = table_from({(0,): 1, (0, 1): 5, (0, 1, 2): Fraction(17, 2), (0, 2): 0, (1,): Fraction(-1, 2), (2,): 3})
MAJORITY = majority_table(3)
ALONE = table_from({(0,): Fraction(-7, 2)})


class ClaimCase(unittest.TestCase):
    def check(self, table, claim, form):
        self.assertEqual(claim[0], form)
        self.assertEqual(faults(table, claim), [], (table.count, table.rows, claim))


class StayTest(ClaimCase):
    def test_right_on_each_table(self):
        forms = set()
        for table, _ in TABLES:
            claim = stay(table)
            self.check(table, claim, claim[0])
            forms.add((claim[0], table.count))
            self.assertIs(claim[0] == "stay", holds_on(table, fairest(table)[1]))
        # There are weights against payments only for two members or more.
        self.assertEqual(forms, {("stay", n) for n in range(1, 6)} | {("leave", n) for n in range(2, 6)})

    def test_written_out(self):
        for table, form in (
            (FEW, "stay"), (MAJORITY, "leave"), (ALONE, "stay"), (glove_table(), "stay"), (majority_table(2), "stay"),
            (table_by(2, lambda group: 1), "leave"), (table_by(2, lambda group: -1), "stay"),
        ):
            self.check(table, stay(table), form)
        self.assertEqual(stay(ALONE), ("stay", ratios(Fraction(-7, 2))))
        self.assertEqual(stay(table=glove_table()), ("stay", ratios(1, 1, 0, 0, 0)))

    def test_just_enough_and_just_too_little(self):
        # Three groups of two earn 1 each, so 3/2 is needed.
        for left_over, form in ((0, "stay"), (Fraction(1, 10 ** 30), "stay"), (Fraction(-1, 10 ** 30), "leave")):
            earnings = {group: min(1, len(group) - 1) for group in groups_of(3)}
            earnings[(0, 1, 2)] = Fraction(3, 2) + left_over
            table = table_from(earnings)
            self.check(table, stay(table), form)


class SubsidyTest(ClaimCase):
    def test_right_on_each_table(self):
        for table, _ in TABLES:
            claim = subsidy(table)
            self.check(table, claim, "subsidy")
            self.assertIs(claim[1].num == 0, stay(table)[0] == "stay")

    def test_amounts(self):
        for table, amount in (
            (FEW, 0), (ALONE, 0), (MAJORITY, Fraction(1, 2)), (majority_table(5), Fraction(2, 3)),
            (table_by(4, lambda group: 7), 21), (table_by(2, lambda group: 10 ** 25), 10 ** 25),
            (table_from({(0,): 4, (0, 1): Fraction(1, 2), (1,): -2}), Fraction(3, 2)), (ring_table(3), 0),
            (table_by(3, lambda group: -len(group)), 0), (table_by(3, lambda group: -(len(group) ** 2)), 6),
        ):
            self.check(table, subsidy(table), "subsidy")
            self.assertEqual(subsidy(table=table)[1], ratio(amount))


class TaxTest(ClaimCase):
    def test_right_on_each_table(self):
        for table, _ in TABLES:
            claim = tax(table)
            self.check(table, claim, "tax")
            self.assertIs(claim[1].num == 0, stay(table)[0] == "stay")

    def test_amounts(self):
        for table, amount in (
            (FEW, 0), (ALONE, 0), (MAJORITY, Fraction(1, 3)), (table_by(2, lambda group: 7), Fraction(7, 2)),
            (table_by(2, lambda group: 10 ** 25), Fraction(10 ** 25, 2)), (ring_table(5), 0),
            (table_from({(0,): 4, (0, 1): Fraction(1, 2), (1,): -2}), Fraction(3, 4)),
        ):
            self.check(table, tax(table), "tax")
            self.assertEqual(tax(table=table)[1], ratio(amount))


class PayCase(ClaimCase):
    def check_no_payments(self, table, function, *arguments):
        with self.assertRaises(NoPayments) as caught:
            function(*arguments)
        self.check(table, ("leave", caught.exception.weights), "leave")


class LeastAndMostTest(PayCase):
    def test_right_on_each_table(self):
        for table, _ in TABLES:
            holds = stay(table)[0] == "stay"
            for member in range(table.count):
                for function, form in ((least_for, "least"), (most_for, "most")):
                    if holds:
                        claim = function(table, member)
                        self.check(table, claim, form)
                        self.assertEqual(claim[1], member)
                    else:
                        self.check_no_payments(table, function, table, member)

    def test_written_out(self):
        for table, member, least, most in (
            (FEW, 0, 1, 6), (FEW, 1, Fraction(-1, 2), Fraction(9, 2)), (FEW, 2, 3, Fraction(7, 2)),
            (ALONE, 0, Fraction(-7, 2), Fraction(-7, 2)), (glove_table(), 0, 1, 1), (glove_table(), 4, 0, 0),
            (table_by(2, lambda group: 1 - 2 * group[0] + len(group)), 0, 2, 3),
            (claims_table(200, 100, 200, 300), 0, 0, 100), (claims_table(200, 100, 200, 300), 2, 0, 200),
        ):
            self.assertEqual(least_for(table, member)[2], ratio(least), (table.rows, member))
            self.assertEqual(most_for(table, member)[2], ratio(most), (table.rows, member))

    def test_by_name(self):
        self.assertEqual(least_for(table=FEW, member=0)[2], Ratio(1))
        self.assertEqual(most_for(table=FEW, member=0)[2], Ratio(6))

    def test_no_payments(self):
        for table in (MAJORITY, majority_table(5), table_by(2, lambda group: 1)):
            for member in range(table.count):
                self.check_no_payments(table, least_for, table, member)
                self.check_no_payments(table, most_for, table, member)


class NearestTest(PayCase):
    def test_right_on_each_table(self):
        for table, wishes in TABLES:
            if stay(table)[0] == "stay":
                claim = nearest(table, wishes)
                self.check(table, claim, "near")
                self.assertEqual(claim[1], wishes)
            else:
                self.check_no_payments(table, nearest, table, wishes)

    def test_amounts(self):
        for table, wishes, amount in (
            (FEW, (0, 0, 0), Fraction(17, 2)), (FEW, (2, Fraction(1, 2), 6), 5), (FEW, (2, 3, Fraction(7, 2)), 0),
            (FEW, (-1, Fraction(13, 2), 3), 4), (ALONE, (0,), Fraction(7, 2)), (ALONE, (Fraction(-7, 2),), 0),
            (ALONE, (-10,), Fraction(13, 2)), (glove_table(), (0, 0, 1, 1, 1), 5), (glove_table(), (3, 1, 0, 0, 0), 2),
        ):
            claim = nearest(table, ratios(*wishes))
            self.check(table, claim, "near")
            self.assertEqual(claim[2], ratio(amount), (table.rows, wishes))

    def test_wishes_that_hold_are_kept(self):
        for table, _ in TABLES:
            if stay(table)[0] == "stay":
                wishes = fairest(table)[1]
                claim = nearest(table=table, wishes=wishes)
                self.check(table, claim, "near")
                self.assertEqual(claim[1:4], (wishes, Ratio(0), wishes))

    def test_no_payments(self):
        self.check_no_payments(MAJORITY, nearest, MAJORITY, ratios(1, 1, 1))


class FairestTest(ClaimCase):
    def check_payments(self, table, *payments):
        claim = fairest(table)
        self.check(table, claim, "fair")
        self.assertEqual(claim[1], ratios(*payments))

    def test_right_on_each_table(self):
        for table, _ in TABLES:
            claim = fairest(table)
            self.check(table, claim, "fair")
            if stay(table)[0] == "stay":
                self.assertIs(holds_on(table, claim[1]), True)

    def test_least_row(self):
        source = Random(20)
        for table, wishes in TABLES:
            view = View(table)
            payments = fairest(table)[1]
            whole = view.earnings[view.whole]
            others = [tax(table)[2], stay(table)[1] if stay(table)[0] == "stay" else payments]
            for size in (Fraction(1, 10 ** 40), Fraction(1, 7), 1, 1000):
                for _ in range(4):
                    moves = [source.choice((-1, 0, 1)) * size for _ in view.whole[1:]]
                    others.append(ratios(*[
                        fraction(pay) + move for pay, move in zip(payments, [-sum(moves)] + moves)
                    ]))
            exact = [fraction(wish) for wish in wishes[1:]]
            others.append(ratios(whole - sum(exact), *exact))
            for other in others:
                self.assertEqual(view.complaint(other, view.whole), 0)
                if other == payments:
                    self.assertEqual(view.row(other), view.row(payments))
                else:
                    self.assertLess(view.row(payments), view.row(other))

    def test_one_member(self):
        self.assertEqual(fairest(ALONE), ("fair", ratios(Fraction(-7, 2)), ()))
        self.assertEqual(fairest(table=table_from({(0,): 0})), ("fair", ratios(0), ()))

    def test_two_members_share_what_is_left_over(self):
        for first, second, both in product((-5, 0, Fraction(1, 3), 4), repeat=3):
            half = Fraction(both - first - second) / 2
            self.check_payments(table_from({(0,): first, (0, 1): both, (1,): second}), first + half, second + half)

    def test_single_members_only(self):
        for count in range(2, 6):
            singles = [Fraction(5 * member ** 2 - 7, member + 1) for member in range(count)]
            for whole in (-3, 0, Fraction(50, 7)):
                earnings = {(member,): earning for member, earning in enumerate(singles)}
                earnings[tuple(range(count))] = whole
                share = (whole - sum(singles)) / count
                self.check_payments(table_from(earnings), *[earning + share for earning in singles])

    def test_claims_on_an_estate(self):
        # The old examples of three creditors of 100, 200 and 300, and of a garment that two hold.
        self.check_payments(claims_table(100, 100, 200, 300), *[Fraction(100, 3)] * 3)
        self.check_payments(claims_table(200, 100, 200, 300), 50, 75, 75)
        self.check_payments(claims_table(300, 100, 200, 300), 50, 100, 150)
        self.check_payments(claims_table(12, 12, 6), 9, 3)
        self.check_payments(claims_table(20, 10, 20, 30, 40, 50), *[4] * 5)
        lost = Fraction(35, 3)
        self.check_payments(claims_table(100, 10, 20, 30, 40, 50), 5, 10, 30 - lost, 40 - lost, 50 - lost)

    def test_alike_members_are_paid_alike(self):
        for count in range(1, 6):
            self.check_payments(majority_table(count), *[Fraction(1, count)] * count)
            share = count ** 2 - Fraction(9, count)
            self.check_payments(table_by(count, lambda group: len(group) ** 3 - 9), *[share] * count)
        self.check_payments(glove_table(), 1, 1, 0, 0, 0)

    def test_a_member_can_be_paid_less_than_alone(self):
        earnings = {group: 0 for group in groups_of(3)}
        earnings[(0, 1)] = 10
        self.check_payments(table_from(earnings), Fraction(5, 2), Fraction(5, 2), -5)

    def test_later_rounds_settle_what_earlier_ones_leave_open(self):
        # Pairs of 0 and 1 and of 2 and 3 get 10 each whatever else happens; within them, other groups decide.
        earnings = {(0,): 1, (0, 1): 10, (0, 1, 2, 3): 20, (1,): 3, (2,): -2, (2, 3): 10, (3,): 0}
        self.check_payments(table_from(earnings), 4, 6, 4, 6)

    def test_earnings_of_all_sizes(self):
        self.check_payments(table_from({(0,): 10 ** 25, (0, 1): Fraction(1, 10 ** 25), (1,): Fraction(1, 3)}),
                            Fraction(10 ** 25 + Fraction(1, 10 ** 25) - Fraction(1, 3)) / 2,
                            Fraction(Fraction(1, 10 ** 25) + Fraction(1, 3) - 10 ** 25) / 2)


class AllFunctionsTest(ClaimCase):
    def check_all(self, table, wishes):
        found = claims_of(table, wishes)
        for claim in found:
            self.check(table, claim, claim[0])
        return found

    def test_each_small_table_of_0_and_1(self):
        pairs = ((0, 1), (0, 2), (1, 2))
        for numbers in product((0, 1), repeat=4):
            for acting in product((None, 0, 1), repeat=3):
                earnings = dict(zip(((0,), (1,), (2,), (0, 1, 2)), numbers))
                earnings.update({pair: earning for pair, earning in zip(pairs, acting) if earning is not None})
                self.check_all(table_from(earnings), ratios(1, 0, Fraction(1, 2)))

    def test_tables_of_five_with_many_equal_earnings(self):
        source = Random(31)
        for _ in range(60):
            chosen = source.choice(((0, 1), (-1, 0), (0, 0, 0, 1), (1, 1, 2)))
            table = table_by(5, lambda group: source.choice(chosen))
            self.check_all(table, ratios(*[source.choice(chosen) for _ in range(5)]))

    def test_parts_have_at_most_60_digits(self):
        # Primes, so that no denominator shares a factor with another one.
        primes = [number for number in range(99000, 10 ** 5) if all(number % part for part in range(2, 320))]
        source = Random(26)
        longest = 0
        for _ in range(40):
            dens = source.sample(primes, 36)
            least = source.choice((1, 99000))
            numbers = [Fraction(source.randint(least, 99999) * source.choice((1, 1, -1)), den) for den in dens]
            earnings = {group: number for group, number in zip(groups_of(5), numbers)}
            whole = (0, 1, 2, 3, 4)
            earnings[whole] = source.choice((Fraction(99999, dens[0]), Fraction(99999, 2), -earnings[whole]))
            for claim in self.check_all(table_from(earnings), ratios(*numbers[31:])):
                for part in ratios_in(claim):
                    longest = max(longest, len(str(abs(part.num))), len(str(part.den)))
        self.assertLessEqual(longest, 60)
        self.assertGreater(longest, 40)

    def test_arguments_are_not_changed(self):
        for table, wishes in TABLES[::10]:
            given = list(wishes)
            before = copy.deepcopy((table, given))
            first = claims_of(table, given)
            self.assertEqual((table, given), before)
            kept = copy.deepcopy(first)
            given.clear()
            self.assertEqual(first, kept)

    def test_answers_are_the_same_again(self):
        for table, wishes in TABLES[::10]:
            self.assertEqual(claims_of(table, wishes), claims_of(table, wishes))

    def test_small_changes_make_claims_wrong(self):
        # This tests the checks that the tests above rely on.
        for table, wishes in [pair for pair in TABLES if pair[0].count > 1][::5]:
            for claim in claims_of(table, wishes):
                # Several weights can show that payments are the nearest ones.
                kept = claim[4:] if claim[0] == "near" else ()
                for other in changed(claim[1:len(claim) - len(kept)]):
                    self.assertTrue(faults(table, claim[:1] + other + kept), (table.rows, claim, other))


def changed(part):
    """The parts in which one fraction is another one."""
    if isinstance(part, Ratio):
        return [part + Ratio(1, 10 ** 9)]
    if not isinstance(part, tuple):
        return []
    return [part[:at] + (other,) + part[at + 1:] for at in range(len(part)) for other in changed(part[at])]


if __name__ == "__main__":
    unittest.main()
