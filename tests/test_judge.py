import copy
import unittest
from fractions import Fraction
from random import Random

from claims import LAYOUT, claims_of, faults
from nogroupleaves.judge import is_right
from nogroupleaves.pay import fairest, least_for, most_for, nearest, stay
from nogroupleaves.ratio import Ratio
from tables import all_tables, majority_table, number_small, random_table, ratio, ratios, table_by, table_from
from variants import SURELY_WRONG, changed_claims

TABLES = all_tables(14)
BIT = Fraction(1, 10 ** 30)
# Members 1 and 2 cannot act together. Payments hold if they pay 17/2, to 0 and 1 at least 5, and so on.
FEW = table_from({(0,): 1, (0, 1): 5, (0, 1, 2): Fraction(17, 2), (0, 2): 0, (1,): Fraction(-1, 2), (2,): 3})
MAJORITY = majority_table(3)
ALONE = table_from({(0,): Fraction(-7, 2)})
# Member 0 is needed, so it gets at least 4.
NEEDED = table_by(3, lambda group: 0 if 0 not in group or len(group) == 1 else len(group) + 3)


def weights_of(*pairs):
    return tuple((group, ratio(weight)) for group, weight in pairs)


def pairs_and_singles(pair, single):
    """Weights of all groups of one and of two of three members."""
    groups = ((0,), (0, 1), (0, 2), (1,), (1, 2), (2,))
    return weights_of(*[(group, single if len(group) == 1 else pair) for group in groups])


PAIRS = weights_of(((0, 1), Fraction(1, 2)), ((0, 2), Fraction(1, 2)), ((1, 2), Fraction(1, 2)))
THIRD = Fraction(1, 3)
HALF = Fraction(1, 2)


class JudgeCase(unittest.TestCase):
    def check(self, table, claim, expected):
        """The answer is the expected one, and so is that of the sentences as the tests read them."""
        self.assertIs(is_right(table, claim), expected, (table.rows, claim))
        self.assertIs(not faults(table, claim), expected, (table.rows, claim))

    def check_all(self, table, expected, *claims):
        for claim in claims:
            self.check(table, claim, expected)

    def check_like_the_sentences(self, table, claim):
        self.check(table, claim, not faults(table, claim))


class WrittenOutTest(JudgeCase):
    def test_stay(self):
        self.check_all(
            FEW, True,
            ("stay", ratios(1, 4, Fraction(7, 2))), ("stay", ratios(1, Fraction(9, 2), 3)),
            ("stay", ratios(6, -HALF, 3)),
        )
        self.check_all(
            FEW, False,
            ("stay", ratios(1, 4 - BIT, Fraction(7, 2) + BIT)), ("stay", ratios(1, 4, Fraction(7, 2) - BIT)),
            ("stay", ratios(1, 4, Fraction(7, 2) + BIT)), ("stay", ratios(1, Fraction(15, 2))), ("stay", ()),
            ("stay", ratios(1, 4, Fraction(7, 2), 0)), ("stay", ratios(0, 5, Fraction(7, 2))),
        )
        self.check(MAJORITY, ("stay", ratios(THIRD, THIRD, THIRD)), False)

    def test_by_name(self):
        self.assertIs(is_right(table=FEW, claim=("stay", ratios(1, 4, Fraction(7, 2)))), True)

    def test_leave(self):
        self.check_all(
            MAJORITY, True,
            ("leave", PAIRS), ("leave", pairs_and_singles(Fraction(2, 5), Fraction(1, 5))),
            ("leave", pairs_and_singles(THIRD + BIT, THIRD - 2 * BIT)),
            ("leave", weights_of(((0, 1), Fraction(2, 3)), ((0, 2), THIRD), ((1, 2), THIRD), ((2,), THIRD))),
        )
        self.check_all(
            MAJORITY, False,
            # The weighted earning is just that of the whole.
            ("leave", pairs_and_singles(THIRD, THIRD)),
            ("leave", weights_of(((0, 1), 1), ((2,), 1))),
            # The covers are more or less than 1.
            ("leave", weights_of(((0, 1), 1), ((0, 2), 1), ((1, 2), 1))), ("leave", PAIRS[:2]), ("leave", ()),
            ("leave", PAIRS[:2] + weights_of(((1, 2), HALF + BIT))),
            # The covers are 1, but not by weights of point 13.
            ("leave", PAIRS[::-1]), ("leave", PAIRS + weights_of(((2,), 0))),
            ("leave", weights_of(((0,), -1), ((0, 1), 1), ((0, 2), 1), ((1,), 0))),
            ("leave", weights_of(((0, 1), HALF), ((0, 1), HALF), ((2,), 1))),
            ("leave", weights_of(((0, 1), Fraction(1, 4)), ((0, 1), Fraction(1, 4))) + PAIRS[1:]),
            ("leave", weights_of(((0, 1), Fraction(2, 5)), ((0, 1, 2), Fraction(1, 5)),
                                 ((0, 2), Fraction(2, 5)), ((1, 2), Fraction(2, 5)))),
            ("leave", weights_of(((), 1)) + PAIRS), ("leave", PAIRS + weights_of(((3,), 1))),
            ("leave", PAIRS[:2] + weights_of(((2, 1), HALF))), ("leave", weights_of(((-1,), 1)) + PAIRS),
        )

    def test_leave_on_other_tables(self):
        self.check_all(FEW, False, ("leave", PAIRS), ("leave", weights_of(((0, 1), 1), ((2,), 1))))
        # The pair of 1 and 2 cannot act, whatever it would earn.
        singles = table_from({(0,): 9, (0, 1, 2): 0, (1,): 0, (2,): 0})
        self.check(singles, ("leave", weights_of(((0,), 1), ((1, 2), 1))), False)
        two = table_by(2, lambda group: 1)
        self.check_all(two, True, ("leave", weights_of(((0,), 1), ((1,), 1))))
        self.check_all(two, False, ("leave", weights_of(((0,), 1))), ("leave", weights_of(((0, 1), 1))))

    def test_subsidy(self):
        halves = ratios(HALF, HALF, HALF)
        hold = ratios(1, 4, Fraction(7, 2))
        self.check(MAJORITY, ("subsidy", ratio(HALF), halves, PAIRS), True)
        self.check(FEW, ("subsidy", ratio(0), hold, ()), True)
        self.check_all(
            MAJORITY, False,
            ("subsidy", ratio(HALF), halves, ()), ("subsidy", ratio(HALF), halves, pairs_and_singles(THIRD, THIRD)),
            ("subsidy", ratio(HALF + BIT), halves, PAIRS), ("subsidy", ratio(HALF), ratios(HALF, HALF), PAIRS),
            ("subsidy", ratio(HALF), ratios(HALF + BIT, HALF, HALF), PAIRS),
            # Payments and weights tell amounts that are not the same.
            ("subsidy", ratio(1), ratios(1, HALF, HALF), PAIRS), ("subsidy", ratio(1), halves, PAIRS),
            # A group gains by leaving.
            ("subsidy", ratio(HALF), ratios(HALF + BIT, HALF, HALF - BIT), PAIRS),
            ("subsidy", ratio(0), ratios(THIRD, THIRD, THIRD), ()),
        )
        self.check_all(
            FEW, False,
            ("subsidy", ratio(0), hold, weights_of(((0, 1), 1), ((2,), 1))), ("subsidy", ratio(0), ratios(1, 4, 3), ()),
            ("subsidy", ratio(HALF), ratios(1, 4, 4), ()),
            # All sentences hold but that the amount is at least 0.
            ("subsidy", ratio(-HALF), ratios(1, 4, 3), weights_of(((0, 1), 1), ((2,), 1))),
            ("subsidy", ratio(-HALF), ratios(1, 4, 3), ()),
        )

    def test_tax(self):
        thirds = ratios(THIRD, THIRD, THIRD)
        thirds_of_pairs = weights_of(((0, 1), THIRD), ((0, 2), THIRD), ((1, 2), THIRD))
        hold = ratios(1, 4, Fraction(7, 2))
        self.check(MAJORITY, ("tax", ratio(THIRD), thirds, thirds_of_pairs), True)
        self.check(FEW, ("tax", ratio(0), hold, ()), True)
        # One member is paid more than needed, so other groups than those with weights have lesser complaints.
        two = table_from({(0,): 4, (0, 1): HALF, (1,): -2})
        half_each = weights_of(((0,), HALF), ((1,), HALF))
        self.check(two, ("tax", ratio(Fraction(3, 4)), ratios(Fraction(13, 4), Fraction(-11, 4)), half_each), True)
        self.check_all(
            MAJORITY, False,
            ("tax", ratio(THIRD), thirds, ()), ("tax", ratio(THIRD), thirds, PAIRS),
            ("tax", ratio(THIRD - BIT), thirds, thirds_of_pairs), ("tax", ratio(THIRD + BIT), thirds, thirds_of_pairs),
            ("tax", ratio(THIRD), ratios(THIRD, THIRD), thirds_of_pairs),
            ("tax", ratio(THIRD), ratios(THIRD + BIT, THIRD, THIRD - BIT), thirds_of_pairs),
            ("tax", ratio(THIRD), ratios(THIRD + BIT, THIRD, THIRD), thirds_of_pairs),
            ("tax", ratio(THIRD), thirds, weights_of(((0, 1), HALF), ((0, 2), HALF))),
            # The complaints are no more than the amount, but it is not the least.
            ("tax", ratio(HALF), thirds, pairs_and_singles(HALF, -HALF)), ("tax", ratio(1), thirds, thirds_of_pairs),
            ("tax", ratio(0), thirds, ()),
            # All sentences hold but that the weights add up to 1.
            ("tax", ratio(2 * THIRD), thirds, weights_of(*[(group, 2 * THIRD) for group, _ in PAIRS])),
            ("tax", ratio(THIRD + BIT), thirds, weights_of(*[(group, THIRD + BIT) for group, _ in PAIRS])),
        )
        self.check_all(
            FEW, False,
            ("tax", ratio(0), hold, weights_of(((0, 1), HALF), ((2,), HALF))), ("tax", ratio(1), hold, ()),
            # All sentences hold but that the amount is at least 0.
            ("tax", ratio(Fraction(-1, 4)), ratios(2, Fraction(13, 4), Fraction(13, 4)),
             weights_of(((0, 1), HALF), ((2,), HALF))),
            ("tax", ratio(Fraction(-1, 4)), ratios(2, Fraction(13, 4), Fraction(13, 4)), ()),
        )

    def test_least(self):
        payments = ratios(1, Fraction(9, 2), 3)
        alone = weights_of(((0,), 1))
        self.check(FEW, ("least", 0, ratio(1), payments, alone, ratio(0)), True)
        self.check(FEW, ("least", 2, ratio(3), payments, weights_of(((2,), 1)), ratio(0)), True)
        both = weights_of(((0, 1), 1), ((0, 2), 1))
        self.check(NEEDED, ("least", 0, ratio(4), ratios(4, 1, 1), both, ratio(-1)), True)
        self.check_all(
            FEW, False,
            ("least", 0, ratio(1), payments, alone, ratio(1)), ("least", 0, ratio(1), payments, (), ratio(0)),
            ("least", 1, ratio(1), payments, alone, ratio(0)), ("least", 3, ratio(1), payments, alone, ratio(0)),
            ("least", 4, ratio(1), payments, alone, ratio(0)), ("most", 0, ratio(1), payments, alone, ratio(0)),
            ("least", 0, ratio(1 + BIT), payments, alone, ratio(0)),
            ("least", 0, ratio(1), payments[:2], alone, ratio(0)),
            # Member 0 is paid the amount, which is not the least; or another one than the least.
            ("least", 0, ratio(2), ratios(2, 3, Fraction(7, 2)), alone, ratio(0)),
            ("least", 0, ratio(1), ratios(2, 3, Fraction(7, 2)), alone, ratio(0)),
            # The payments do not hold.
            ("least", 0, ratio(1), ratios(1, 4, 3), alone, ratio(0)),
            ("least", 0, ratio(1), ratios(1, 4 - BIT, Fraction(7, 2) + BIT), alone, ratio(0)),
            # Without the covers of the others this would show 5.
            ("least", 0, ratio(5), ratios(5, 0, Fraction(7, 2)), weights_of(((0, 1), 1)), ratio(0)),
            ("least", 0, ratio(1), payments, weights_of(((0,), 1), ((1, 2), 1), ((2,), 1)), ratio(0)),
        )

    def test_most(self):
        payments = ratios(6, -HALF, 3)
        others = weights_of(((1,), 1), ((2,), 1))
        self.check(FEW, ("most", 0, ratio(6), payments, others, ratio(-1)), True)
        hold = ratios(1, 4, Fraction(7, 2))
        self.check(FEW, ("most", 2, ratio(Fraction(7, 2)), hold, weights_of(((0, 1), 1)), ratio(-1)), True)
        self.check_all(
            FEW, False,
            ("most", 0, ratio(6), payments, others, ratio(1)), ("most", 0, ratio(6), payments, others[:1], ratio(-1)),
            ("most", 0, ratio(-6), payments, others, ratio(-1)), ("least", 0, ratio(6), payments, others, ratio(-1)),
            ("most", 3, ratio(6), payments, others, ratio(-1)), ("most", 1, ratio(6), payments, others, ratio(-1)),
            ("most", 0, ratio(5), ratios(5, HALF, 3), others, ratio(-1)),
            ("most", 0, ratio(6), payments + ratios(0), others, ratio(-1)),
            ("most", 0, ratio(6), ratios(6, -HALF + BIT, 3 - BIT), others, ratio(-1)),
            ("most", 0, ratio(6), payments, weights_of(((1, 2), 1)), ratio(-1)),
        )

    def test_near(self):
        hold = ratios(1, 4, Fraction(7, 2))
        self.check(FEW, ("near", ratios(0, 0, 0), ratio(Fraction(17, 2)), hold, (), ratio(1)), True)
        wishes = ratios(2, HALF, 6)
        nearest_ones = ratios(2, 3, Fraction(7, 2))
        double = weights_of(((0, 1), 2))
        self.check(FEW, ("near", wishes, ratio(5), nearest_ones, double, ratio(-1)), True)
        self.check(FEW, ("near", hold, ratio(0), hold, (), ratio(0)), True)
        # Any rest will do where the wishes are paid, and any weights of groups without a complaint.
        self.check(FEW, ("near", hold, ratio(0), hold, (), ratio(-1)), True)
        self.check(FEW, ("near", hold, ratio(0), hold, weights_of(((0,), HALF), ((0, 1), 1)), ratio(-HALF)), True)
        self.check_all(
            FEW, False,
            ("near", hold, ratio(0), hold, (), ratio(1 + BIT)), ("near", hold, ratio(0), hold, (), ratio(-1 - BIT)),
            ("near", hold, ratio(0), hold, weights_of(((0,), HALF), ((0, 1), 1)), ratio(0)),
            ("near", hold, ratio(0), hold, weights_of(((2,), 1)), ratio(0)),
            ("near", hold[:2], ratio(0), hold, (), ratio(0)), ("near", hold + ratios(0), ratio(0), hold, (), ratio(0)),
            ("near", (), ratio(0), hold, (), ratio(0)), ("near", hold, ratio(0), hold[:2], (), ratio(0)),
            ("near", wishes, ratio(5), nearest_ones, double, ratio(0)),
            ("near", wishes, ratio(5), nearest_ones, (), ratio(-1)),
            ("near", wishes, ratio(5 + BIT), nearest_ones, double, ratio(-1)),
            # The amount is the difference, but others are nearer.
            ("near", wishes, ratio(6), ratios(2, Fraction(7, 2), 3), double, ratio(-1)),
            ("near", wishes, ratio(0), wishes, (), ratio(0)),
            # The sum of the differences with their signs is 0.
            ("near", wishes, ratio(0), nearest_ones, (), ratio(0)),
            ("near", wishes, ratio(-5), nearest_ones, double, ratio(1)),
        )

    def test_near_with_covers_at_both_ends(self):
        # The wishes are too many for the whole, so the rest is -1, and the least amount is the difference.
        table = table_from({(0,): 0, (0, 1): 2, (1,): 0})
        for wishes, amount, rest in (((3, 3), 4, -1), ((0, 0), 2, 1), ((1, 1), 0, 0), ((1, 1), 0, HALF)):
            claim = ("near", ratios(*wishes), ratio(amount), ratios(1, 1), (), ratio(rest))
            self.check(table, claim, True)
            self.check(table, claim[:5] + (ratio(2 * rest + BIT),), wishes == (1, 1) and abs(2 * rest + BIT) <= 1)

    def test_fair(self):
        thirds = ratios(THIRD, THIRD, THIRD)
        first = (ratio(THIRD), PAIRS)
        last = (ratio(-THIRD), pairs_and_singles(Fraction(1, 4), HALF))
        self.check(MAJORITY, ("fair", thirds, (first, last)), True)
        self.check(MAJORITY, ("fair", thirds, (first, (ratio(-THIRD), pairs_and_singles(HALF - BIT, 2 * BIT)))), True)
        self.check_all(
            MAJORITY, False,
            ("fair", thirds, ()), ("fair", thirds, (first,)), ("fair", thirds, (last,)),
            ("fair", thirds, (last, first)),
            ("fair", thirds, (first, first, last)), ("fair", thirds, (first, last, last)),
            ("fair", thirds, (first, (ratio(0), PAIRS), last)), ("fair", thirds, (first, (ratio(-THIRD), PAIRS))),
            ("fair", thirds, ((ratio(THIRD), last[1]), last)), ("fair", thirds, ((ratio(THIRD + BIT), PAIRS), last)),
            ("fair", thirds, (first, (ratio(-THIRD), pairs_and_singles(HALF, 0)))),
            ("fair", thirds, (first, (ratio(-THIRD), pairs_and_singles(HALF, HALF)))),
            ("fair", thirds, ((ratio(THIRD), ()), last)), ("fair", thirds, (first, (ratio(-THIRD), last[1][1:]))),
            ("fair", thirds[:2], (first, last)), ("fair", thirds + thirds, (first, last)),
            ("fair", ratios(0, 0, 0), ((ratio(1), PAIRS), (ratio(0), last[1]))),
            ("fair", ratios(HALF, HALF, 0), (first, last)),
        )

    def test_fair_is_no_claim_that_payments_hold(self):
        self.check(FEW, ("fair", ratios(1, 4, Fraction(7, 2)), ()), False)
        self.check(FEW, fairest(FEW), True)
        # Payments that are not the fairest ones, with their own complaints and the groups that have these.
        table = table_by(2, lambda group: 2 if len(group) == 2 else 0)
        both = weights_of(((0,), 1), ((1,), 1))
        self.check(table, ("fair", ratios(1, 1), ((ratio(-1), both),)), True)
        for first in (both[:1], both):
            levels = ((ratio(-HALF), first), (ratio(Fraction(-3, 2)), both))
            self.check(table, ("fair", ratios(HALF, Fraction(3, 2)), levels), False)

    def test_one_member(self):
        pay = ratios(Fraction(-7, 2))
        self.check_all(
            ALONE, True,
            ("stay", pay), ("subsidy", ratio(0), pay, ()), ("tax", ratio(0), pay, ()), ("fair", pay, ()),
            ("least", 0, pay[0], pay, (), ratio(1)), ("most", 0, pay[0], pay, (), ratio(-1)),
            ("near", ratios(0), ratio(Fraction(7, 2)), pay, (), ratio(-1)),
            ("near", ratios(-4), ratio(HALF), pay, (), ratio(1)), ("near", pay, ratio(0), pay, (), ratio(HALF)),
        )
        one = weights_of(((0,), 1))
        self.check_all(
            ALONE, False,
            ("stay", ratios(0)), ("stay", ()), ("stay", pay + pay), ("leave", ()), ("leave", one),
            ("subsidy", ratio(0), pay, one), ("subsidy", ratio(1), ratios(Fraction(-5, 2)), one),
            ("tax", ratio(0), pay, one), ("tax", ratio(1), pay, ()), ("tax", ratio(1), pay, one),
            ("fair", pay, ((pay[0], one),)), ("fair", pay, ((ratio(0), ()),)), ("fair", ratios(0), ()),
            ("least", 0, pay[0], pay, one, ratio(0)),
            ("least", 1, pay[0], pay, (), ratio(1)), ("most", 1, pay[0], pay, (), ratio(-1)),
            ("least", 0, pay[0], pay, (), ratio(0)), ("most", 0, pay[0], pay, (), ratio(1)),
            ("near", ratios(0), ratio(Fraction(7, 2)), pay, (), ratio(1)), ("near", (), ratio(0), pay, (), ratio(0)),
        )


class ChangedTest(JudgeCase):
    def test_what_pay_tells(self):
        for table, wishes in all_tables(40):
            for claim in claims_of(table, wishes):
                self.assertIs(is_right(table, claim), True, (table.rows, claim))

    def test_one_thing_changed(self):
        source = Random(14)
        seen = {}
        for table, wishes in TABLES:
            claims = claims_of(table, wishes)
            for claim in claims[:5] + source.sample(claims[5:], min(2, len(claims) - 5)):
                changes = list(changed_claims(table, claim))
                for word, other in source.sample(changes, min(60, len(changes))):
                    expected = not faults(table, other)
                    self.assertIs(is_right(table, other), expected, (table.rows, word, other))
                    self.assertFalse(expected and word in SURELY_WRONG, (word, other))
                    seen.setdefault((claim[0], word), set()).add(expected)
                    if expected:
                        self.check_same(table, claims, other)
        self.assertEqual({form for form, _ in seen}, set(LAYOUT))
        self.assertLessEqual(set(SURELY_WRONG), {word for _, word in seen})
        # Some changes leave a claim right.
        self.assertLessEqual({"moved", "number", "added"}, {word for (_, word), found in seen.items() if True in found})

    def check_same(self, table, claims, other):
        """What a right claim says is what the claims of pay.py say, whatever shows it."""
        if other[0] == "fair":
            self.assertEqual(other[1], fairest(table)[1])
        elif other[0] in ("subsidy", "tax"):
            self.assertEqual(other[1], {claim[0]: claim for claim in claims}[other[0]][1])
        elif other[0] in ("least", "most"):
            function = least_for if other[0] == "least" else most_for
            self.assertEqual(other[2], function(table, other[1])[2])
        elif other[0] == "near":
            self.assertEqual(other[2], nearest(table, other[1])[2])
        else:
            self.assertEqual(other[0], claims[0][0])

    def test_each_change_of_some_claims(self):
        for table in (FEW, MAJORITY, ALONE, NEEDED, table_by(2, lambda group: 1)):
            for claim in claims_of(table, ratios(*[Fraction(5 * member - 3, 2) for member in range(table.count)])):
                for word, other in changed_claims(table, claim):
                    self.check_like_the_sentences(table, other)
                    if word in SURELY_WRONG:
                        self.check(table, other, False)

    def test_claims_of_other_tables(self):
        tables = TABLES[::7]
        for table, wishes in tables:
            for claim in claims_of(table, wishes):
                for other, _ in tables[::4]:
                    self.check_like_the_sentences(other, claim)

    def test_each_member_in_the_place_of_another_one(self):
        for table, _ in TABLES[::5]:
            if stay(table)[0] == "stay":
                for member in range(table.count):
                    for claim in (least_for(table, member), most_for(table, member)):
                        for other in range(5):
                            self.check_like_the_sentences(table, claim[:1] + (other,) + claim[2:])

    def test_right_claims_of_two_kinds_mixed(self):
        # Weights half from the one and half from the other claim show the same.
        source = Random(15)
        for _ in range(150):
            table = random_table(source, number_small)
            if stay(table)[0] == "leave":
                whole = fairest(table)[2][-1][1]
                mixed = tuple(
                    (group, weight * Ratio(1, 2) + dict(stay(table)[1]).get(group, Ratio(0)) * Ratio(1, 2))
                    for group, weight in whole
                )
                self.check_like_the_sentences(table, ("leave", mixed))
                self.check_like_the_sentences(table, ("leave", whole))

    def test_nothing_is_changed(self):
        for table, wishes in TABLES[::12]:
            for claim in claims_of(table, wishes):
                for _, other in [("right", claim)] + list(changed_claims(table, claim))[::9]:
                    before = copy.deepcopy((table, other))
                    first = is_right(table, other)
                    self.assertEqual((table, other), before)
                    self.assertIs(is_right(table, other), first)


if __name__ == "__main__":
    unittest.main()
