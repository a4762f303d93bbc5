"""What the document promises over the whole program: points 1, 2 and 26, and the ways from a house to claims."""

import copy
import unittest
from fractions import Fraction
from random import Random

from claims import View, claims_of, faults, ratios_in
from nogroupleaves.change import reduced, renumbered, scaled
from nogroupleaves.earn import best_plan, earned
from nogroupleaves.errors import NoPayments
from nogroupleaves.house import house_text, read_house
from nogroupleaves.judge import is_right
from nogroupleaves.lines import claim_lines, read_claim, read_table, table_lines
from nogroupleaves.pact import Pact
from nogroupleaves.pay import fairest, least_for, most_for, nearest, stay, subsidy, tax
from nogroupleaves.ratio import Ratio
from nogroupleaves.table import acting, best_split, complaint, gains, holds_on, table_of
from plans import groups_of, random_houses
from samples import SAMPLES
from tables import all_tables, fraction, majority_table, ratio, ratios, table_from
from variants import changed_claims

TABLES = all_tables(25)


class PromiseTest(unittest.TestCase):
    def payments_to_try(self, table, wishes):
        """Payments that pay the whole exactly: the fairest ones, those with the least tax, and others."""
        view = View(table)
        found = [fairest(table)[1], tax(table)[2]]
        for others in (wishes[1:], [row[1] for row in table.rows if len(row[0]) == 1][1:]):
            exact = [fraction(pay) for pay in others]
            found.append(ratios(view.earnings[view.whole] - sum(exact), *exact))
        return found

    def test_payments_or_weights_never_both(self):
        forms = {"stay": 0, "leave": 0}
        for table, wishes in TABLES:
            claim = stay(table)
            forms[claim[0]] += 1
            self.assertIs(is_right(table, claim), True)
            self.assertEqual(faults(table, claim), [])
            fair = fairest(table)
            if claim[0] == "leave":
                for payments in self.payments_to_try(table, wishes):
                    self.assertIs(is_right(table, ("stay", payments)), False)
                    self.assertTrue(gains(table, payments))
            else:
                # The weights of each level cover each member once, as those of a claim "leave" would.
                for _, weights in fair[2]:
                    self.assertIs(is_right(table, ("leave", weights)), False)
                for word, other in changed_claims(table, ("leave", fair[2][-1][1] if fair[2] else ())):
                    self.assertIs(is_right(table, other), False, word)
        self.assertGreater(min(forms.values()), 50)

    def test_just_at_the_edge(self):
        # With the least subsidy there are payments that hold, and with any less there are none.
        for table, _ in TABLES:
            amount = fraction(subsidy(table)[1])
            whole = tuple(range(table.count))
            earnings = {group: fraction(earning) for group, earning in table.rows}
            enough = table_from({**earnings, whole: earnings[whole] + amount})
            self.assertEqual(stay(enough)[0], "stay")
            self.assertIs(is_right(enough, ("stay", subsidy(table)[2])), True)
            if amount > 0:
                less = table_from({**earnings, whole: earnings[whole] + amount - Fraction(1, 10 ** 40)})
                self.assertEqual(stay(less)[0], "leave")
                self.assertIs(is_right(less, ("leave", subsidy(table)[3])), True)

    def test_the_fairest_payments(self):
        for table, wishes in TABLES:
            fair = fairest(table)
            self.assertIs(is_right(table, fair), True)
            self.assertIs(holds_on(table, fair[1]), stay(table)[0] == "stay")
            for payments in self.payments_to_try(table, wishes):
                if payments != fair[1]:
                    self.assertIs(is_right(table, ("fair", payments, fair[2])), False)
                    levels = self.own_levels(table, payments)
                    self.assertIs(is_right(table, ("fair", payments, levels)), False)

    def own_levels(self, table, payments):
        """Levels with the complaints and the groups that these payments have, with equal weights."""
        view = View(table)
        levels = []
        for least in sorted(set(view.row(payments)), reverse=True):
            groups = [group for group in view.leavers if view.complaint(payments, group) >= least]
            levels.append((ratio(least), tuple((group, Ratio(1, len(groups))) for group in groups)))
        return tuple(levels)


class WaysTest(unittest.TestCase):
    def check_ways(self, text):
        house = read_house(text)
        self.assertEqual(house_text(house), text)
        table = table_of(house)
        lines = table_lines(table)
        self.assertEqual(read_table(lines), table)
        self.assertEqual([line.split(" ")[0] for line in lines[1:]], ["+".join(map(str, g)) for g in acting(house)])
        wishes = ratios(*[Fraction(9999 * member - 7, 2 * member + 3) for member in range(table.count)])
        for claim in claims_of(read_table(lines), wishes):
            written = claim_lines(claim)
            self.assertEqual(read_claim(written), claim)
            self.assertEqual(claim_lines(read_claim(written)), written)
            self.assertIs(is_right(table, read_claim(written)), True, (text, written))
            self.assertEqual(faults(table, read_claim(written)), [])
        return stay(table)[0]

    def test_from_houses_to_claims_and_back(self):
        forms = [self.check_ways(house_text(house)) for house in random_houses(60)]
        forms += [self.check_ways(text) for text, _ in SAMPLES]
        self.assertGreater(forms.count("stay"), 10)

    def test_a_house_without_payments_that_hold(self):
        # Each two members can fill one of the orders, and all can fill one, too.
        text = "good g member a has g 1 member b has g 1 member c has g 1 order o pays 10 takes g 2"
        self.assertEqual(self.check_ways(text), "leave")
        self.assertEqual(table_lines(table_of(read_house(text))),
                         ["members 3", "0 0", "0+1 10", "0+1+2 10", "0+2 10", "1 0", "1+2 10", "2 0"])
        table = table_of(read_house(text))
        self.assertEqual(claim_lines(stay(table)), ["leave", "weight 0+1 1/2", "weight 0+2 1/2", "weight 1+2 1/2"])
        self.assertEqual(claim_lines(fairest(table))[:3], ["fair", "pay 10/3 10/3 10/3", "level 10/3"])

    def test_other_tables_are_judged_and_written_too(self):
        for table, wishes in TABLES[::9]:
            payments = fairest(table)[1]
            order = tuple(range(table.count))[::-1]
            found = [scaled(table, Ratio(3, 7), wishes), renumbered(table, order)]
            found += [reduced(table, payments, group) for group in groups_of(table.count)[::4]]
            pact = Pact(table)
            pact.tell((0,), Ratio(1, 3))
            for other in found + [pact.table]:
                self.assertEqual(read_table(table_lines(other)), other)
                for claim in claims_of(other, wishes[:other.count]):
                    self.assertIs(is_right(other, claim), True)


class LengthTest(unittest.TestCase):
    def test_parts_of_what_is_told(self):
        primes = [number for number in range(99000, 10 ** 5) if all(number % part for part in range(2, 320))]
        source = Random(62)
        longest = 0
        for number in range(60):
            count = 5 if number % 3 else source.randint(1, 4)
            dens = source.sample(primes, 36)
            earnings = {}
            for group in groups_of(count):
                if len(group) in (1, count) or source.random() < source.choice((0.4, 1)):
                    earnings[group] = Fraction(source.randint(90000, 99999) * source.choice((1, -1)), dens.pop())
            wishes = ratios(*[Fraction(source.randint(-99999, 99999), dens.pop()) for _ in range(count)])
            if number % 2:
                earnings[tuple(range(count))] = Fraction(99999, source.choice((1, 2)))
            table = table_from(earnings)
            for claim in claims_of(table, wishes):
                for part in ratios_in(claim):
                    longest = max(longest, len(str(abs(part.num))), len(str(part.den)))
                # Lines with longer parts could not be read.
                self.assertEqual(read_claim(claim_lines(claim)), claim)
                self.assertIs(is_right(table, claim), True)
        self.assertLessEqual(longest, 60)
        self.assertGreater(longest, 40)


class UnchangedTest(unittest.TestCase):
    def check(self, function, *arguments):
        """The function tells the same again, changes no argument, and what it told does not change with one."""
        before = copy.deepcopy(arguments)
        first = function(*arguments)
        self.assertEqual(arguments, before, function)
        kept = copy.deepcopy(first)
        for argument in arguments:
            if isinstance(argument, list):
                argument.append(argument[0])
                argument.reverse()
        self.assertEqual(first, kept, function)
        if isinstance(first, list):
            first.clear()
        self.assertEqual(function(*copy.deepcopy(before)), kept, function)

    def test_houses(self):
        for house in random_houses(20):
            text = house_text(house)
            self.check(house_text, house)
            self.check(read_house, text)
            self.check(acting, house)
            self.check(table_of, house)
            for group in groups_of(len(house.members))[::5]:
                amount, plan = best_plan(house, group)
                self.assertEqual(earned(house, group, plan), amount)
                self.check(best_plan, house, group)
                self.check(earned, house, group, plan)

    def test_tables_and_claims(self):
        for table, wishes in TABLES[::6]:
            whole = tuple(range(table.count))
            pays = list(wishes)
            for function in (best_split, stay, subsidy, tax, fairest, table_lines):
                self.check(function, table)
            for function in (gains, holds_on):
                self.check(function, table, list(pays))
            self.check(complaint, table, list(pays), whole)
            self.check(scaled, table, Ratio(2, 3), list(pays))
            self.check(renumbered, table, list(whole))
            self.check(reduced, table, list(pays), whole[:1])
            if stay(table)[0] == "stay":
                self.check(nearest, table, list(pays))
                self.check(least_for, table, 0)
                self.check(most_for, table, table.count - 1)
            self.check(read_table, table_lines(table))
            for claim in claims_of(table, wishes):
                self.check(is_right, table, claim)
                self.check(claim_lines, claim)
                self.check(read_claim, claim_lines(claim))

    def test_pacts(self):
        for table, _ in TABLES[::6]:
            before = copy.deepcopy(table)
            first, second = Pact(table), Pact(table)
            for group, earning in table.rows:
                first.tell(group, earning + Ratio(1))
            self.assertEqual(table, before)
            self.assertEqual((second.table, second.words()), (before, []))
            self.assertEqual(second.payments, Pact(table).payments)
            self.assertEqual(len(first.words()), len(table.rows))

    def test_errors_keep_their_own_weights(self):
        with self.assertRaises(NoPayments) as caught:
            least_for(majority_table(3), 0)
        self.assertIs(type(caught.exception.weights), tuple)
        self.assertIs(is_right(majority_table(3), ("leave", caught.exception.weights)), True)


if __name__ == "__main__":
    unittest.main()
