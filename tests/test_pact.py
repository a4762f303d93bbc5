import copy
import unittest
from fractions import Fraction
from random import Random

from claims import View
from nogroupleaves.errors import BadTable
from nogroupleaves.judge import is_right
from nogroupleaves.pact import Pact
from nogroupleaves.pay import fairest, nearest, stay
from nogroupleaves.ratio import Ratio
from nogroupleaves.table import Table, holds_on
from plans import groups_of
from tables import all_tables, fraction, majority_table, ratio, ratios, table_by, table_from

HALF = Fraction(1, 2)
WHOLE = (0, 1, 2)
# Members 1 and 2 cannot act together.
EARNINGS = {(0,): 1, (0, 1): 5, (0, 1, 2): Fraction(17, 2), (0, 2): 0, (1,): -HALF, (2,): 3}
FEW = table_from(EARNINGS)
# Payments that hold pay 2 members 5 together, and each at least 0.
PAIR = {(0,): 0, (0, 1): 5, (1,): 0}


class PactCase(unittest.TestCase):
    def check(self, pact, table, payments, words):
        self.assertEqual(pact.table, table)
        self.assertEqual(pact.payments, payments)
        self.assertEqual(pact.words(), words)


class WordsTest(PactCase):
    def test_at_the_beginning(self):
        self.check(Pact(table_from(PAIR)), table_from(PAIR), ratios(Fraction(5, 2), Fraction(5, 2)), [])
        self.check(Pact(majority_table(3)), majority_table(3), None, [])
        self.check(Pact(table_from({(0,): 7})), table_from({(0,): 7}), ratios(7), [])
        for table, _ in all_tables(5):
            pact = Pact(table=table)
            self.check(pact, table, fairest(table)[1] if stay(table)[0] == "stay" else None, [])

    def test_kept(self):
        pact = Pact(table_from(PAIR))
        half = Fraction(5, 2)
        for group, earning in (((0,), 0), ((0,), half), ((1,), -7), ((1,), half), ((0, 1), 5), ((0,), -10 ** 25)):
            self.assertEqual(pact.tell(group, ratio(earning)), "kept")
            self.assertEqual(pact.payments, ratios(half, half))
        self.check(pact, table_from({(0,): -10 ** 25, (0, 1): 5, (1,): half}), ratios(half, half), ["kept"] * 6)

    def test_kept_payments_need_not_be_the_fairest_ones(self):
        pact = Pact(table_from(PAIR))
        self.assertEqual(pact.tell((0,), Ratio(2)), "kept")
        self.assertEqual(pact.payments, ratios(Fraction(5, 2), Fraction(5, 2)))
        self.assertNotEqual(fairest(pact.table)[1], pact.payments)

    def test_moved(self):
        pact = Pact(table_from(PAIR))
        self.assertEqual(pact.tell(group=(0,), earning=Ratio(4)), "moved")
        self.check(pact, table_from({**PAIR, (0,): 4}), ratios(4, 1), ["moved"])
        # From where the payments are now, not from where they were before.
        self.assertEqual(pact.tell((0,), Ratio(0)), "kept")
        self.assertEqual(pact.tell((1,), Ratio(2)), "moved")
        self.check(pact, table_from({**PAIR, (1,): 2}), ratios(3, 2), ["moved", "kept", "moved"])

    def test_moved_with_the_whole(self):
        for whole in (6, Fraction(501, 100), 4, 10 ** 25, 0):
            pact = Pact(table_from(PAIR))
            self.assertEqual(pact.tell((0, 1), ratio(whole)), "moved")
            table = table_from({**PAIR, (0, 1): whole})
            self.assertEqual(pact.table, table)
            self.assertIs(holds_on(table, pact.payments), True)
            before = Fraction(5, 2)
            moved = sum(abs(fraction(pay) - before) for pay in pact.payments)
            self.assertEqual(moved, abs(Fraction(whole) - 5))

    def test_broken(self):
        pact = Pact(table_from(PAIR))
        self.assertEqual(pact.tell((0,), ratio(5 + Fraction(1, 10 ** 30))), "broken")
        self.check(pact, table_from({**PAIR, (0,): 5 + Fraction(1, 10 ** 30)}), None, ["broken"])

    def test_broken_again(self):
        pact = Pact(majority_table(3))
        self.assertEqual(pact.tell((0, 1), Ratio(2)), "broken")
        self.assertEqual(pact.tell((0, 1), Ratio(2)), "broken")
        earnings = {group: 1 if len(group) > 1 else 0 for group in groups_of(3)}
        self.check(pact, table_from({**earnings, (0, 1): 2}), None, ["broken", "broken"])

    def test_made(self):
        pact = Pact(majority_table(3))
        self.assertEqual(pact.tell((0, 1, 2), ratio(Fraction(3, 2))), "made")
        earnings = {group: 1 if len(group) > 1 else 0 for group in groups_of(3)}
        self.check(pact, table_from({**earnings, WHOLE: Fraction(3, 2)}), ratios(HALF, HALF, HALF), ["made"])

    def test_behind_a_broken_pact_the_fairest_ones(self):
        pact = Pact(table_from(PAIR))
        self.assertEqual(pact.tell((0,), Ratio(4)), "moved")
        self.assertEqual(pact.payments, ratios(4, 1))
        self.assertEqual(pact.tell((1,), Ratio(2)), "broken")
        self.assertIsNone(pact.payments)
        # The payments before would hold again, but they are gone.
        self.assertEqual(pact.tell((1,), Ratio(0)), "made")
        self.check(pact, table_from({**PAIR, (0,): 4}), ratios(Fraction(9, 2), HALF), ["moved", "broken", "made"])

    def test_one_member(self):
        pact = Pact(table_from({(0,): 0}))
        self.assertEqual(pact.tell((0,), ratio(HALF)), "moved")
        self.assertEqual(pact.tell((0,), ratio(HALF)), "kept")
        self.check(pact, table_from({(0,): HALF}), ratios(HALF), ["moved", "kept"])

    def test_all_words(self):
        pact = Pact(FEW)
        self.assertEqual(pact.tell((0, 2), Ratio(-1)), "kept")
        self.assertEqual(pact.tell((0, 1), Ratio(6)), "broken")
        self.assertEqual(pact.tell(WHOLE, Ratio(10)), "made")
        self.assertEqual(pact.tell(WHOLE, Ratio(9)), "moved")
        self.assertEqual(pact.words(), ["kept", "broken", "made", "moved"])


class NewsTest(PactCase):
    def check_news(self, pact, group, earning):
        """One piece of news, and what point 25 says of it."""
        before = pact.payments
        rows = [(other, earning if other == group else old) for other, old in pact.table.rows]
        table = Table(pact.table.count, rows)
        known = pact.words()
        word = pact.tell(group, earning)
        self.assertEqual(pact.table, table)
        self.assertEqual(pact.words(), known + [word])
        if before is not None and View(table).holds(before):
            self.assertEqual((word, pact.payments), ("kept", before))
        elif stay(table)[0] == "leave":
            self.assertEqual((word, pact.payments), ("broken", None))
        elif before is None:
            self.assertEqual((word, pact.payments), ("made", fairest(table)[1]))
        else:
            self.assertEqual(word, "moved")
            self.assertIs(View(table).holds(pact.payments), True)
            # What shows that the payments told by nearest are the nearest ones shows it of these, too.
            claim = nearest(table, before)
            self.assertIs(is_right(table, claim[:3] + (pact.payments,) + claim[4:]), True)
        return word

    def test_each_table(self):
        source = Random(25)
        words = []
        for table, _ in all_tables(12):
            pact = Pact(table)
            self.assertIs(pact.payments is None, stay(table)[0] == "leave")
            earnings = [earning for _, earning in table.rows]
            for _ in range(8):
                group, earning = source.choice(table.rows)
                if source.random() < 0.4:
                    group = tuple(range(table.count))
                more = source.choice((ratio(0), source.choice(earnings), source.choice(earnings), Ratio(1)))
                words.append(self.check_news(pact, group, source.choice((earning + more, earning - more, more))))
        for word in ("kept", "broken", "moved", "made"):
            self.assertGreater(words.count(word), 50, word)

    def test_small_changes(self):
        for word, size in (("kept", 0), ("moved", Fraction(1, 10 ** 30)), ("broken", 1)):
            pact = Pact(FEW)
            payments = pact.payments
            group_pay = fraction(payments[0]) + fraction(payments[1])
            self.assertEqual(self.check_news(pact, (0, 1), ratio(group_pay + size)), word)


class WrongNewsTest(PactCase):
    def test_groups(self):
        for table in (FEW, majority_table(3), table_from({**EARNINGS, (0, 1): 6})):
            pact = Pact(table)
            pact.tell((0,), Ratio(0))
            before = copy.deepcopy((pact.table, pact.payments, pact.words()))
            wrong = [(), (3,), (-1,), (1, 0), (0, 0), (2, 1, 0), (0, 1, 2, 3), (0, 0, 1), (0, 3), (7, 8)]
            if table.earning((1, 2)) is None:
                wrong.append((1, 2))
            for group in wrong:
                with self.assertRaises(BadTable) as caught:
                    pact.tell(group, Ratio(1))
                self.assertEqual(caught.exception.what, "group")
                self.check(pact, *before)

    def test_the_pact_goes_on(self):
        pact = Pact(table_from(PAIR))
        for _ in range(3):
            with self.assertRaises(BadTable):
                pact.tell((2,), Ratio(0))
            self.assertEqual(pact.tell((0,), Ratio(0)), "kept")
        self.assertEqual(pact.words(), ["kept"] * 3)


class ApartTest(PactCase):
    def test_tables_stay(self):
        table = table_from(EARNINGS)
        kept = copy.deepcopy(table)
        pact = Pact(table)
        seen = []
        for group, earning in (((0, 1), 6), (WHOLE, 12), (WHOLE, 10), ((2,), 4), ((0, 2), 1), ((1,), 9)):
            pact.tell(group, ratio(earning))
            self.assertEqual(pact.table.earning(group), ratio(earning))
            seen.append((pact.table, copy.deepcopy(pact.table), pact.payments, copy.deepcopy(pact.payments)))
            self.assertEqual(table, kept)
            for had, copied, paid, paid_copy in seen:
                self.assertEqual((had, paid), (copied, paid_copy))
        self.assertEqual(set(pact.words()), {"kept", "broken", "made", "moved"})

    def test_words_can_be_changed(self):
        pact = Pact(table_from(PAIR))
        pact.words().append("made")
        pact.tell((0,), Ratio(0))
        words = pact.words()
        words.clear()
        self.assertEqual(pact.words(), ["kept"])
        words = pact.words()
        pact.tell((0,), Ratio(9))
        self.assertEqual((words, pact.words()), (["kept"], ["kept", "broken"]))
        self.assertIs(type(pact.words()), list)

    def test_another_pact_of_the_same_table(self):
        table = table_by(2, lambda group: len(group))
        first, second = Pact(table), Pact(table)
        self.assertEqual(first.tell((0,), Ratio(7)), "broken")
        self.check(second, table, ratios(1, 1), [])
        self.assertEqual(second.tell((0, 1), Ratio(3)), "moved")
        self.check(first, table_from({(0,): 7, (0, 1): 2, (1,): 1}), None, ["broken"])
        self.assertEqual(second.words(), ["moved"])
        third = Pact(second.table)
        self.check(third, second.table, ratios(Fraction(3, 2), Fraction(3, 2)), [])


if __name__ == "__main__":
    unittest.main()
