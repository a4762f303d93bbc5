import copy
import unittest
from fractions import Fraction
from random import Random

from claims import LAYOUT
from nogroupleaves.errors import BadPaper
from nogroupleaves.lines import claim_lines, read_claim, read_table, table_lines
from nogroupleaves.ratio import Ratio
from nogroupleaves.table import Table
from papers import begins_claim, begins_table, fault_at, is_claim, is_table
from plans import groups_of
from tables import all_tables, number_fraction, random_table, ratio, ratios, table_by, table_from

HALF = Fraction(1, 2)
LONG = "9" * 60
LONGER = "1" + "0" * 60
FEW = table_from({(0,): 1, (0, 1): 5, (0, 1, 2): Fraction(17, 2), (0, 2): 0, (1,): -HALF, (2,): -3})
FEW_LINES = ["members 3", "0 1", "0+1 5", "0+1+2 17/2", "0+2 0", "1 -1/2", "2 -3"]
LEAST_LINES = ["members 3", "0 1", "0+1+2 17/2", "1 -1/2", "2 -3"]

# Words that are no fractions.
NO_FRACTIONS = (
    "", "-", "--1", "+1", "1-", "a", "1a", "1.5", "1e3", "0x1", "1_0", "-0", "00", "01", "-01", "007",
    "0/1", "0/2", "-0/3", "1/1", "-3/1", "1/0", "0/0", "2/4", "6/4", "-6/4", "10/5", "1/02", "01/2", "1/-2",
    "-1/-2", "1/+2", "/", "/2", "1/",
    "-/2", "1//2", "1/2/3", "1/2/", "1/a", LONGER, "-" + LONGER, "0" * 61, "1/" + LONGER, LONGER + "/3",
    "1/" + "0" * 61, "1/\t2", "1\n", "\t1", "1,5", "1+2", "0+1", "(1)", "1/2\n", "\n",
)
FRACTIONS = (
    "0", "1", "-1", "9", "10", "100", "99999", "1/2", "-1/2", "3/2", "-3/2", "1/10", "7/100", "-99999/99998",
    LONG, "-" + LONG, "1/" + LONG, "-1/" + LONG, LONG + "/" + LONG[:59] + "8", "1" + "0" * 59,
)
NO_GROUPS = (
    "", "a", "5", "-1", "00", "01", "0+", "+0", "0++1", "0,1", "0-1", "1+0", "0+0", "0+1+1", "0+2+1", "2+1+0", "0+5",
    "0+1+2+3+4+5", "10", "0+10", "+", "0 1", "\t0", "0\n", "0+1+", "0.1", "*", ".", "/", ":",
)


class ReadCase(unittest.TestCase):
    def check_fault(self, read, lines, at):
        kept = list(lines)
        with self.assertRaises(BadPaper, msg=lines) as caught:
            read(lines)
        self.assertEqual(caught.exception.at, at, lines)
        self.assertEqual(lines, kept)


class TableLinesTest(unittest.TestCase):
    def test_written_out(self):
        self.assertEqual(table_lines(FEW), FEW_LINES)
        self.assertEqual(table_lines(table=table_from({(0,): -HALF})), ["members 1", "0 -1/2"])
        self.assertEqual(
            table_lines(table_by(2, lambda group: 10 ** 25 if len(group) > 1 else Fraction(1, 10 ** 25))),
            ["members 2", "0 1/1" + "0" * 25, "0+1 1" + "0" * 25, "1 1/1" + "0" * 25],
        )
        five = table_lines(table_by(5, lambda group: 0))
        self.assertEqual(five[:6], ["members 5", "0 0", "0+1 0", "0+1+2 0", "0+1+2+3 0", "0+1+2+3+4 0"])
        self.assertEqual((len(five), five[-1]), (32, "4 0"))

    def test_long_parts(self):
        long = Ratio(10 ** 60 - 1, 10 ** 59)
        table = Table(1, [((0,), Ratio(0) - long)])
        self.assertEqual(table_lines(table), ["members 1", "0 -" + LONG + "/1" + "0" * 59])
        self.assertEqual(read_table(table_lines(table)), table)
        # A part that is somewhat longer is written, too.
        self.assertEqual(table_lines(Table(1, [((0,), Ratio(10 ** 60))])), ["members 1", "0 " + LONGER])

    def test_like_python(self):
        for table, _ in all_tables(12):
            expected = [f"members {table.count}"]
            for group, earning in table.rows:
                expected.append("+".join(map(str, group)) + " " + str(Fraction(earning.num, earning.den)))
            self.assertEqual(table_lines(table), expected)
            self.assertIs(is_table(table_lines(table)) or table.count == 5, True)

    def test_a_new_list_each_time(self):
        lines = table_lines(FEW)
        lines[1] = "0 7"
        lines.clear()
        self.assertEqual(table_lines(FEW), FEW_LINES)


class ReadTableTest(ReadCase):
    def test_written_out(self):
        self.assertEqual(read_table(FEW_LINES), FEW)
        self.assertEqual(read_table(lines=["members 1", "0 -1/2"]), table_from({(0,): -HALF}))
        self.assertIsInstance(read_table(FEW_LINES), Table)

    def test_written_and_read(self):
        for table, _ in all_tables(30):
            lines = table_lines(table)
            self.assertEqual(read_table(lines), table)
            self.assertEqual(table_lines(read_table(lines)), lines)

    def test_lists_stay(self):
        lines = list(FEW_LINES)
        table = read_table(lines)
        self.assertEqual(lines, FEW_LINES)
        lines.clear()
        self.assertEqual(table, FEW)

    def test_fractions(self):
        for word in FRACTIONS:
            exact = Fraction(word)
            table = read_table(LEAST_LINES[:3] + ["1 " + word, "2 0"])
            earning = table.earning((1,))
            self.assertEqual((earning.num, earning.den), (exact.numerator, exact.denominator))
            self.assertEqual(table_lines(table)[3], "1 " + word)

    def test_no_fractions(self):
        for word in NO_FRACTIONS:
            for at in range(1, 5):
                group = LEAST_LINES[at].split(" ")[0]
                lines = LEAST_LINES[:at] + [group + " " + word] + LEAST_LINES[at + 1:]
                self.check_fault(read_table, lines, at)

    def test_no_groups(self):
        for word in NO_GROUPS + ("3", "0+3", "0+1+2+3", "4"):
            for at in range(1, 5):
                lines = LEAST_LINES[:at] + [word + " 0"] + LEAST_LINES[at:]
                self.check_fault(read_table, lines, at)

    def test_groups_out_of_order(self):
        for lines, at in (
            (["members 2", "0 1", "0 1"], 2), (["members 2", "0 1", "1 1", "0+1 1"], 2), (["members 2", "0+1 1"], 1),
            (["members 2", "1 1"], 1), (["members 2", "0 1", "0+1 1", "0 1"], 3),
            (["members 2", "0 1", "0+1 1", "0+1 1"], 3), (["members 2", "0 1", "0+1 1", "1 1", "1 1"], 4),
            (["members 3", "0 1", "0+1 5", "0+2 1", "0+1+2 1"], 3), (["members 3", "0 0", "0+1+2 0", "0+1 0"], 3),
        ):
            self.check_fault(read_table, lines, at)

    def test_missing_groups(self):
        for lines, at in (
            # The first line with which it is too late for a single member, and for the whole.
            (["members 3", "0+1 5", "0+1+2 1", "1 0", "2 0"], 1), (["members 3", "0 1", "0+1+2 1", "2 0"], 3),
            (["members 3", "0 1", "0+1+2 1", "1+2 0", "2 0"], 3), (["members 3", "0 1", "0+1 5", "0+2 0", "1 0"], 3),
            (["members 3", "0 1", "1 0", "2 0"], 2), (["members 3", "0 1", "0+1+2 1", "0+2 0", "1 0", "1+2 0"], 6),
            (["members 3", "0 1", "0+1 2"], 3), (["members 3", "0 1"], 2), (["members 3"], 1), ([], 0),
            (["members 1"], 1), (["members 5", "0 0", "0+1+2+4 0"], 2), (["members 5", "0 0", "0+1+2+3 0"], 3),
        ):
            self.check_fault(read_table, lines, at)

    def test_too_many_lines(self):
        for more in ("2 0", "0 1", "3 0", "0+1+2 0", "", "members 3", "weight 2 1"):
            self.check_fault(read_table, LEAST_LINES + [more], 5)
            self.check_fault(read_table, LEAST_LINES + [more, "2 0"], 5)
        self.check_fault(read_table, ["members 1", "0 0", "0 0"], 2)

    def test_first_line(self):
        for line in (
            "", "members", "members 0", "members 6", "members 10", "members -1", "members 03", "members 3 ",
            " members 3", "members  3", "members 3 3", "member 3", "Members 3", "3", "members x", "members 3/1",
            "members 3\n",
            "members\t3", "members +3", "members 33", "stay", "members ", "members 3 0 1",
        ):
            self.check_fault(read_table, [line] + LEAST_LINES[1:], 0)
        for count in range(1, 6):
            self.check_fault(read_table, [f"members {count}"], 1)

    def test_words_of_a_line(self):
        for line in ("", " ", "  ", "1", "1 ", " 1", "1  0", "1 0 ", " 1 0", "1 0 0", "1 0 1/2", "weight 1 0",
                     "1\t0", "1 0\n"):
            self.check_fault(read_table, LEAST_LINES[:3] + [line] + LEAST_LINES[4:], 3)
            self.check_fault(read_table, LEAST_LINES[:3] + [line], 3)

    def test_first_of_several_faults(self):
        self.check_fault(read_table, ["members 9", "0 x", "7"], 0)
        self.check_fault(read_table, ["members 2", "0 1", "1 x", "x"], 2)
        self.check_fault(read_table, ["members 2", "0 1", "0+1 x", "1"], 2)

    def test_like_all_tables(self):
        source = Random(27)
        words = ("0", "-0", "1/2", "2/4", "01", "7", "", "-3", LONG, LONGER, "members")
        for _ in range(3000):
            count = source.randint(1, 4)
            groups = ["+".join(map(str, group)) for group in groups_of(count)]
            chosen = [group for group in groups if len(group) in (1, 2 * count - 1) or source.random() < 0.3]
            lines = [f"members {count}"] + [f"{group} {source.choice(words[:3:2])}" for group in chosen]
            lines = changed_lines(source, lines, groups, words)
            expected = fault_at(lines, is_table, begins_table)
            if expected is None:
                self.assertEqual(table_lines(read_table(lines)), lines)
            else:
                self.check_fault(read_table, lines, expected)


def changed_lines(source, lines, groups, words):
    """Lines in which up to two lines, or words of them, are other ones."""
    lines = list(lines)
    for _ in range(source.randint(0, 2)):
        at = source.randrange(len(lines)) if lines else 0
        way = source.randrange(6)
        if way == 0:
            del lines[at:at + 1]
        elif way == 1:
            lines.insert(at, source.choice(groups) + " " + source.choice(words))
        elif way == 2 and lines:
            lines.insert(source.randint(0, len(lines)), lines[at])
        elif way == 3 and lines:
            parts = lines[at].split(" ")
            parts[source.randrange(len(parts))] = source.choice(words)
            lines[at] = " ".join(parts)
        elif way == 4 and lines:
            line = lines[at]
            lines[at] = source.choice((line + " ", " " + line, line + " 1", line.replace(" ", "  ")))
        else:
            del lines[at:]
    return lines


def weights_of(*pairs):
    return tuple((group, ratio(weight)) for group, weight in pairs)


WEIGHTS = weights_of(((0,), HALF), ((0, 1, 2, 3, 4), 10 ** 25), ((1, 3), 1), ((4,), Fraction(10 ** 60 - 1, 10 ** 59)))
WEIGHT_LINES = ["weight 0 1/2", "weight 0+1+2+3+4 1" + "0" * 25, "weight 1+3 1", "weight 4 " + LONG + "/1" + "0" * 59]
PAYMENTS = ratios(0, -HALF, 7)
PAY = "pay 0 -1/2 7"

# A claim of each form, and its lines.
SAMPLES = (
    (("stay", PAYMENTS), ["stay", PAY]),
    (("leave", WEIGHTS), ["leave"] + WEIGHT_LINES),
    (("leave", ()), ["leave"]),
    (("subsidy", ratio(Fraction(5, 3)), PAYMENTS, WEIGHTS), ["subsidy 5/3", PAY] + WEIGHT_LINES),
    (("subsidy", ratio(0), PAYMENTS, ()), ["subsidy 0", PAY]),
    (("tax", ratio(-2), PAYMENTS, WEIGHTS), ["tax -2", PAY] + WEIGHT_LINES),
    (("tax", ratio(0), ratios(4), ()), ["tax 0", "pay 4"]),
    (("least", 0, ratio(4), PAYMENTS, WEIGHTS, ratio(-1)), ["least 0 4 -1", PAY] + WEIGHT_LINES),
    (("least", 4, ratio(-4), PAYMENTS, (), ratio(HALF)), ["least 4 -4 1/2", PAY]),
    (("most", 2, ratio(Fraction(1, 3)), PAYMENTS, WEIGHTS, ratio(0)), ["most 2 1/3 0", PAY] + WEIGHT_LINES),
    (("near", ratios(1, 2), ratio(3), PAYMENTS, WEIGHTS, ratio(-HALF)),
     ["near 3 -1/2", "wish 1 2", PAY] + WEIGHT_LINES),
    (("near", ratios(1, 2, 3, 4, 5), ratio(0), ratios(*[0] * 5), (), ratio(1)),
     ["near 0 1", "wish 1 2 3 4 5", "pay 0 0 0 0 0"]),
    (("fair", PAYMENTS, ()), ["fair", PAY]),
    (("fair", PAYMENTS, ((ratio(1), WEIGHTS), (ratio(-HALF), ()), (ratio(1), WEIGHTS[1:3]))),
     ["fair", PAY, "level 1"] + WEIGHT_LINES + ["level -1/2", "level 1"] + WEIGHT_LINES[1:3]),
)


class ClaimLinesTest(unittest.TestCase):
    def test_written_out(self):
        for claim, lines in SAMPLES:
            self.assertEqual(claim_lines(claim), lines)
            self.assertIs(is_claim(lines), True)
        self.assertEqual(claim_lines(claim=("stay", PAYMENTS)), ["stay", PAY])
        self.assertEqual({claim[0] for claim, _ in SAMPLES}, set(LAYOUT))

    def test_a_new_list_each_time(self):
        for claim, lines in SAMPLES:
            before = copy.deepcopy(claim)
            handed_out = claim_lines(claim)
            handed_out[0] = "leave"
            handed_out.append("weight 4 1")
            self.assertEqual(claim_lines(claim), lines)
            self.assertEqual(claim, before)

    def test_somewhat_longer_parts_are_written(self):
        self.assertEqual(claim_lines(("tax", Ratio(10 ** 60), ratios(0), ())), ["tax " + LONGER, "pay 0"])


class ReadClaimTest(ReadCase):
    def check_line(self, lines, at, line):
        """The line in the place of another one, and as the last one, is the first fault."""
        self.check_fault(read_claim, lines[:at] + [line] + lines[at + 1:], at)
        self.check_fault(read_claim, lines[:at] + [line], at)

    def check_kinds(self, part):
        self.assertIs(type(part) in (tuple, int, str, Ratio), True)
        for item in part if isinstance(part, tuple) else ():
            self.check_kinds(item)

    def test_written_out(self):
        for claim, lines in SAMPLES:
            kept = list(lines)
            found = read_claim(lines=lines)
            self.assertEqual(found, claim)
            self.check_kinds(found)
            self.assertEqual(lines, kept)

    def test_lists_stay(self):
        for claim, lines in SAMPLES:
            given = list(lines)
            found = read_claim(given)
            given.clear()
            self.assertEqual(found, claim)

    def test_no_lines(self):
        self.check_fault(read_claim, [], 0)

    def test_first_line(self):
        for line in (
            "", " ", "x", "Stay", "stay ", " stay", "stay 1", "leave 1", "leave ", "fair 1", "fair ", "subsidy",
            "subsidy ", "subsidy 1 2", "subsidy  1", "tax", "tax 1 2", "tax 0 ", "least", "least 0", "least 0 1",
            "least 0 1 2 3",
            "least 5 1 2", "least -1 1 2", "least 00 1 2", "least 1/2 1 2", "least  1 2", "least 10 1 2", "most 0 1",
            "most 5 0 0", "most a 0 0", "most 0 0 0 ", "near", "near 1", "near 1 2 3", "near 0 1 2", "near  1",
            "stay\n", "stay\tpay", "pay 0", "weight 0 1", "level 0", "wish 0", "members 1", "near 1 2\n", "kept",
        ):
            self.check_line(["stay", "pay 0"], 0, line)
        for word in NO_FRACTIONS:
            for line in (
                f"subsidy {word}", f"tax {word}", f"least 0 {word} 1", f"least 0 1 {word}", f"most 0 {word} 1",
                f"most 0 1 {word}", f"near {word} 1", f"near 1 {word}",
            ):
                self.check_line(["leave", "weight 0 1"], 0, line)

    def test_members(self):
        for member in range(5):
            for form in ("least", "most"):
                self.assertEqual(read_claim([f"{form} {member} 1 2", "pay 0"]),
                                 (form, member, Ratio(1), ratios(0), (), Ratio(2)))
        for word in ("5", "6", "9", "-1", "-0", "00", "01", "1/2", "a", "", "0+1", "4\n", ".", "/", "-"):
            self.check_line(["most 0 0 0", "pay 0"], 0, f"most {word} 0 0")

    def test_fractions(self):
        for word in FRACTIONS:
            number = ratio(Fraction(word))
            self.assertEqual(read_claim([f"near {word} {word}", f"wish {word} {word}", f"pay {word}"]),
                             ("near", (number, number), number, (number,), (), number))
            lines = ["fair", f"pay {word} 0 {word}", f"level {word}", f"level {word}"]
            self.assertEqual(claim_lines(read_claim(lines)), lines)
            if number.num > 0:
                self.assertEqual(read_claim(["leave", f"weight 3 {word}"]), ("leave", (((3,), number),)))
            else:
                self.check_line(["leave", "weight 0 1"], 1, f"weight 0 {word}")

    def test_no_fractions(self):
        for word in NO_FRACTIONS:
            for count in range(5):
                line = " ".join(["pay"] + ["1/2"] * count + [word])
                self.check_line(["stay", "pay 0"], 1, line)
                self.check_line(["tax 0", "pay 0", "weight 0 1"], 1, line)
                self.check_line(["near 0 0", "wish 0", "pay 0"], 1, line.replace("pay", "wish"))
                self.check_line(["near 0 0", "wish 0", "pay 0"], 2, line)
            self.check_line(["leave", "weight 0 1", "weight 1 1"], 1, f"weight 0 {word}")
            self.check_line(["leave", "weight 0 1", "weight 1 1"], 2, f"weight 1 {word}")
            self.check_line(["fair", "pay 0", "level 0", "weight 0 1"], 2, f"level {word}")

    def test_numbers_of_fractions(self):
        for count in range(1, 6):
            words = " 1/2" * count
            self.assertEqual(read_claim(["stay", "pay" + words]), ("stay", ratios(*[HALF] * count)))
            wishes = read_claim(["near 0 0", "wish" + words, "pay 0"])[1]
            self.assertEqual(wishes, ratios(*[HALF] * count))
        for words in ("", " ", " 1 2 3 4 5 6", " 1  2", "  1", " 1 ", " 1 2 3 4 5 "):
            self.check_line(["stay", "pay 0"], 1, "pay" + words)
            self.check_line(["near 0 0", "wish 0", "pay 0"], 1, "wish" + words)
            self.check_line(["near 0 0", "wish 0", "pay 0"], 2, "pay" + words)

    def test_key_words(self):
        for lines in (["stay", "pay 0"], ["subsidy 0", "pay 0"], ["least 0 0 0", "pay 0"], ["fair", "pay 0"]):
            for line in ("", "0", "wish 0", "Pay 0", "pays 0", "level 0", "weight 0 1", " pay 0", "pay\t0", "stay"):
                self.check_line(lines, 1, line)
        for line in ("", "pay 0", "Wish 0", "weight 0 1", "level 0", "wishes 0"):
            self.check_line(["near 0 0", "wish 0", "pay 0"], 1, line)
        for line in ("", "wish 0", "weight 0 1", "level 0", "near 0 0"):
            self.check_line(["near 0 0", "wish 0", "pay 0"], 2, line)
        for line in ("", "weights 0 1", "Weight 0 1", "0 1", "pay 0", "wish 0", "level 0", "leave"):
            self.check_line(["leave", "weight 0 1"], 1, line)
            self.check_line(["tax 0", "pay 0", "weight 0 1"], 2, line)
            self.check_line(["leave", "weight 0 1", "weight 1 1"], 2, line)
        for line in ("", "weight 0 1", "levels 0", "level", "level ", "level 0 1", "level  0", "Level 0", "pay 0", "0"):
            self.check_line(["fair", "pay 0", "level 0"], 2, line)
            if line != "weight 0 1":
                self.check_line(["fair", "pay 0", "level 0", "level 1"], 3, line)

    def test_words_of_a_weight(self):
        for line in ("weight", "weight 0", "weight 0 ", "weight  1", "weight 0  1", "weight 0 1 ", "weight 0 1 1",
                     "weight 0 1 2", " weight 0 1", "weight 0\t1", "weight 0+1", "weight 1/2 0", "weight 0 1\n"):
            self.check_line(["leave", "weight 0 1"], 1, line)
            self.check_line(["fair", "pay 0", "level 0", "weight 0 1"], 3, line)

    def test_groups(self):
        for group in groups_of(5):
            word = "+".join(map(str, group))
            self.assertEqual(read_claim(["leave", f"weight {word} 1"]), ("leave", ((group, Ratio(1)),)))
        for word in NO_GROUPS:
            self.check_line(["leave", "weight 0 1", "weight 1 1"], 1, f"weight {word} 1")
            self.check_line(["fair", "pay 0", "level 0", "weight 0 1"], 3, f"weight {word} 1")

    def test_all_groups_in_order(self):
        lines = ["leave"] + ["weight " + "+".join(map(str, group)) + " 1" for group in groups_of(5)]
        self.assertEqual(read_claim(lines), ("leave", tuple((group, Ratio(1)) for group in groups_of(5))))
        for at in range(1, 31):
            exchanged = lines[:at] + [lines[at + 1], lines[at]] + lines[at + 2:]
            self.check_fault(read_claim, exchanged, at + 1)
            self.check_fault(read_claim, lines[:at] + [lines[at]] + lines[at:], at + 1)

    def test_order_within_a_level_only(self):
        lines = ["fair", "pay 0"]
        lines += ["level 1", "weight 4 1", "level 1", "weight 0 1", "weight 4 1", "level 0", "weight 4 2"]
        one, four = ((0,), Ratio(1)), ((4,), Ratio(1))
        self.assertEqual(
            read_claim(lines),
            ("fair", ratios(0), ((Ratio(1), (four,)), (Ratio(1), (one, four)), (Ratio(0), (((4,), Ratio(2)),)))),
        )
        self.check_fault(read_claim, lines[:5] + lines[6:7] + lines[5:6], 6)
        self.check_fault(read_claim, lines[:4] + lines[5:], 4)

    def test_too_few_lines(self):
        for lines in (["stay"], ["subsidy 1"], ["tax 0"], ["least 0 0 0"], ["most 4 1/2 0"], ["near 0 0"], ["fair"],
                      ["near 0 0", "wish 1 2"]):
            self.check_fault(read_claim, lines, len(lines))

    def test_too_many_lines(self):
        for more in ("", " ", "pay 0", "weight 0 1", "level 0", "wish 0", "stay"):
            self.check_fault(read_claim, ["stay", "pay 0", more], 2)
            self.check_fault(read_claim, ["stay", "pay 0", more, more], 2)
            if more != "weight 0 1":
                self.check_fault(read_claim, ["leave", more], 1)
                self.check_fault(read_claim, ["subsidy 1", "pay 0", more], 2)
                self.check_fault(read_claim, ["least 0 0 0", "pay 0", "weight 0 1", more], 3)
                self.check_fault(read_claim, ["near 0 0", "wish 0", "pay 0", more], 3)
                if more != "level 0":
                    self.check_fault(read_claim, ["fair", "pay 0", "level 0", "weight 0 1", more], 4)
            else:
                self.check_fault(read_claim, ["fair", "pay 0", more], 2)

    def test_what_only_the_judge_asks_is_read(self):
        for lines in (
            ["leave", "weight 0+1+2+3+4 1"], ["stay", "pay 0 0 0 0 0"], ["subsidy -7", "pay 1"], ["leave"],
            ["subsidy 0", "pay 1", "weight 3 1"], ["near -1 -1", "wish 1", "pay 1 2 3 4 5"], ["least 4 0 0", "pay 1"],
            ["fair", "pay 1", "level 0", "level 1", "level 0"], ["tax 5", "pay 1 2"],
        ):
            self.assertEqual(claim_lines(read_claim(lines)), lines)

    def test_like_all_claims(self):
        source = Random(28)
        groups = ["weight " + word for word in ("0", "0+1", "0+1+2", "1", "2+4", "4", "5", "1+0")]
        words = ("0", "-0", "1/2", "2/4", "01", "7", "", "-3", LONG, LONGER, "pay", "weight", "level", "wish", "4")
        for _ in range(6000):
            lines = changed_lines(source, source.choice(SAMPLES)[1], groups, words)
            expected = fault_at(lines, is_claim, begins_claim)
            if expected is None:
                self.assertEqual(claim_lines(read_claim(lines)), lines)
            else:
                self.check_fault(read_claim, lines, expected)


class BothWaysTest(unittest.TestCase):
    def random_weights(self, source):
        groups = sorted(source.sample(groups_of(5), source.randint(0, 6)))
        return tuple((group, ratio(abs(number_fraction(source)) + 1)) for group in groups)

    def random_part(self, source, kind):
        def numbers():
            return ratios(*[number_fraction(source) for _ in range(source.randint(1, 5))])
        if kind == "member":
            return source.randint(0, 4)
        if kind in ("payments", "wishes"):
            return numbers()
        if kind == "weights":
            return self.random_weights(source)
        if kind == "levels":
            return tuple((numbers()[0], self.random_weights(source)) for _ in range(source.randint(0, 4)))
        return source.choice((numbers()[0], ratio(Fraction(-(10 ** 60) + 1, 10 ** 59)), Ratio(0)))

    def test_claims(self):
        source = Random(29)
        for form, kinds in LAYOUT.items():
            for _ in range(40):
                claim = (form,) + tuple(self.random_part(source, kind) for kind in kinds)
                lines = claim_lines(claim)
                self.assertEqual(read_claim(lines), claim)
                self.assertEqual(claim_lines(read_claim(lines)), lines)
                self.assertIs(is_claim(lines), True, lines)

    def test_tables(self):
        source = Random(30)
        for _ in range(100):
            table = random_table(source, number_fraction)
            self.assertEqual(read_table(table_lines(table)), table)


if __name__ == "__main__":
    unittest.main()
