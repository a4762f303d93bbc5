import unittest
from random import Random

from nogroupleaves.errors import BadText, GroupError
from nogroupleaves.house import house_text, read_house
from oracle import KEYS, fault_at
from samples import GREATEST, LEAST, SAMPLES, SHARED, USUAL

START = "good a good b good c member x member y member z"


def refused_at(text):
    """The `at` with which a text is refused, or None if it is read."""
    try:
        read_house(text)
    except BadText as error:
        return error.at
    return None


def words_of(text):
    return text.split(" ") if text else []


class RefusedTest(unittest.TestCase):
    def refused(self, text, at):
        with self.assertRaises(BadText, msg=text) as caught:
            read_house(text)
        self.assertIsInstance(caught.exception, GroupError)
        self.assertEqual(caught.exception.at, at, text)

    def goes_wrong(self, text, wrong):
        """The text writes a house, and not even the beginning of one with this word behind it."""
        self.assertIsNone(refused_at(text), text)
        self.refused(f"{text} {wrong}", len(words_of(text)))
        self.refused(f"{text} {wrong} a", len(words_of(text)))

    def breaks(self, text, wrong):
        """The text is a beginning only, also with no word more, and no beginning with this word behind it."""
        count = len(words_of(text))
        self.refused(text, count)
        self.refused(f"{text} {wrong}", count)
        self.refused(f"{text} {wrong} 1", count)

    def test_empty(self):
        self.refused("", 0)

    def test_one_word(self):
        self.refused("good", 1)
        for word in ("member", "talk", "recipe", "order", "a", "0", "Good", "goods", "has", "goo", "good\n", "\tgood"):
            self.refused(word, 0)

    def test_spaces(self):
        self.refused(" ", 0)
        self.refused("  ", 0)
        self.refused(" " + LEAST[0], 0)
        self.refused(LEAST[0] + " ", 4)
        self.refused(LEAST[0] + "  ", 4)

    def test_two_spaces_at_each_place(self):
        for text, _ in SAMPLES:
            words = words_of(text)
            for at in range(1, len(words)):
                self.refused(" ".join(words[:at]) + "  " + " ".join(words[at:]), at)

    def test_ends_too_early_at_each_place(self):
        for text, _ in SAMPLES:
            words = words_of(text)
            for count in range(len(words)):
                at = refused_at(" ".join(words[:count]))
                self.assertIn(at, (None, count))
                self.assertTrue(fault_at(words[:count], at), words[:count])

    def test_ends_within_a_part(self):
        for begun in (
            "good", "good a", "good a good", "good a good b", "good a member",
            START + " member", START + " member w has",
            START + " member w has a", START + " talk", START + " talk x", START + " recipe", START + " recipe r",
            START + " recipe r cost", START + " recipe r cost 1", START + " recipe r cost 1 times",
            START + " recipe r cost 1 times 1 needs", START + " recipe r cost 1 times 1 takes",
            START + " recipe r cost 1 times 1 takes a", START + " recipe r cost 1 times 1 gives",
            START + " recipe r cost 1 times 1 gives a", START + " order", START + " order o", START + " order o pays",
            START + " order o pays 1", START + " order o pays 1 takes", START + " order o pays 1 takes a",
            START + " order o pays 1 takes a 1 takes", START + " order o pays 1 takes a 1 takes b",
        ):
            self.refused(begun, len(words_of(begun)))

    def test_wrong_key_words(self):
        recipe = START + " recipe r"
        order = START + " order o"
        for begun, right in (
            ("good a", "member"), (recipe, "cost"), (recipe + " cost 1", "times"), (order, "pays"),
            (order + " pays 1", "takes"),
        ):
            for wrong in KEYS + ["a", "0", "", right.upper(), right + "s", right[:-1], right + "\n"]:
                if wrong != right and not (begun == "good a" and wrong == "good"):
                    self.breaks(begun, wrong)

    def test_parts_in_the_wrong_order(self):
        self.refused("member x good a", 0)
        for wrong in ("good", "cost", "times", "needs", "takes", "gives", "pays", "x", "0"):
            self.goes_wrong(START, wrong)
        self.goes_wrong(START + " talk x y", "has")
        self.goes_wrong(START + " talk x y", "member")
        self.goes_wrong(START + " talk x y", "good")
        self.goes_wrong(START + " member w has a 1", "takes")
        recipe = START + " recipe r cost 1 times 1"
        for wrong in ("talk", "member", "good", "has", "cost", "times", "pays"):
            self.goes_wrong(recipe, wrong)
        self.goes_wrong(recipe + " takes a 1", "needs")
        self.goes_wrong(recipe + " gives a 1", "needs")
        self.goes_wrong(recipe + " gives a 1", "takes")
        order = START + " order o pays 1 takes a 1"
        for wrong in ("recipe", "talk", "member", "good", "has", "gives", "needs", "pays"):
            self.goes_wrong(order, wrong)

    def test_a_part_too_many(self):
        goods = "good a good b good c good d"
        self.breaks(goods, "good")
        members = goods + " member v member w member x member y member z"
        self.goes_wrong(members, "member")
        holdings = " has a 1 has b 1 has c 1 has d 1"
        self.goes_wrong(goods + " member v" + holdings, "has")
        self.goes_wrong("good a member v has a 1", "has")
        self.goes_wrong(members + holdings, "member")
        recipes = START + " recipe p cost 1 times 1 recipe q cost 1 times 1 recipe r cost 1 times 1"
        self.goes_wrong(recipes, "recipe")
        recipe = goods + " member v member w member x recipe p cost 1 times 1 needs v needs x"
        self.goes_wrong(recipe, "needs")
        self.goes_wrong(recipe + holdings.replace("has", "takes"), "takes")
        self.goes_wrong(recipe + holdings.replace("has", "gives"), "gives")
        self.goes_wrong(LEAST[0] + " recipe r cost 1 times 1 needs b", "needs")
        self.goes_wrong(LEAST[0] + " recipe r cost 1 times 1 takes a 0", "takes")
        self.goes_wrong(LEAST[0] + " recipe r cost 1 times 1 gives a 0", "gives")
        orders = START + "".join(f" order {name} pays 1 takes a 1" for name in ("o", "p", "q", "r"))
        self.goes_wrong(orders, "order")
        self.goes_wrong(START + " order o pays 1 takes a 1 takes b 1 takes c 1", "takes")
        self.goes_wrong(goods + " member v order o pays 1" + holdings.replace("has", "takes"), "takes")

    def test_names(self):
        for begun in (
            "good", "good a good", "good a member", START + " member", START + " recipe", START + " order",
            START + " recipe r cost 1 times 1 recipe", START + " order o pays 1 takes a 1 order",
        ):
            for wrong in KEYS + [
                "", "abcdefghi", "A", "aB", "Ab", "a1", "1", "0", "a_b", "a-b", "a.", "`", "{", "a\n", "\ta",
            ]:
                self.breaks(begun, wrong)

    def test_names_that_stand_twice(self):
        self.breaks("good a good", "a")
        self.breaks("good a good b good c good", "b")
        self.breaks("good a member x member", "x")
        self.breaks(START + " member", "y")
        self.breaks(START + " recipe r cost 1 times 1 recipe s cost 1 times 1 recipe", "r")
        self.breaks(START + " order o pays 1 takes a 1 order p pays 1 takes a 1 order", "o")

    def test_numbers(self):
        for begun in (
            START + " member w has a", START + " recipe r cost", START + " recipe r cost 1 times 1 takes a",
            START + " recipe r cost 1 times 1 gives a", START + " order o pays", START + " order o pays 1 takes a",
        ):
            for wrong in (
                "", "00", "01", "0000", "0123", "10000", "99999", "-1", "-0", "+1", "1.", "1x", "x", "a", "takes",
                "1_0", "0x1", "1\n", "\t1", "/", ":",
            ):
                self.breaks(begun, wrong)

    def test_times(self):
        for wrong in (
            "0", "5", "10", "11", "41", "9999", "01", "04", "00", "-1", "+2", "", "a", "needs", "2\n", "40000",
        ):
            self.breaks(START + " recipe r cost 1 times", wrong)

    def test_goods_that_do_not_exist(self):
        for begun in (
            START + " member w has", START + " recipe r cost 1 times 1 takes", START + " recipe r cost 1 times 1 gives",
            START + " order o pays 1 takes",
        ):
            for wrong in ("d", "x", "r", "o", "w", "", "aa", "good", "0", "a\n", "A"):
                self.breaks(begun, wrong)

    def test_members_that_do_not_exist(self):
        for begun in (START + " talk", START + " talk x", START + " recipe r cost 1 times 1 needs"):
            for wrong in ("a", "w", "r", "", "xx", "member", "0", "y\n", "X"):
                self.breaks(begun, wrong)

    def test_goods_that_stand_twice(self):
        for begun in (
            START + " member w has a 1 has", START + " recipe r cost 1 times 1 takes a 1 takes b 1 takes",
            START + " recipe r cost 1 times 1 takes b 1 gives a 1 gives", START + " order o pays 1 takes a 1 takes",
        ):
            self.breaks(begun, "a")

    def test_members_that_stand_twice(self):
        self.breaks(START + " recipe r cost 1 times 1 needs y needs", "y")

    def test_talks_that_do_not_go_forward(self):
        for first, second in (("x", "x"), ("y", "y"), ("y", "x")):
            self.breaks(f"{START} talk {first}", second)

    def test_the_last_member_begins_no_talk(self):
        self.breaks(START + " talk", "z")
        self.goes_wrong(LEAST[0], "talk")

    def test_equal_talks(self):
        self.breaks(START + " talk x y talk x", "y")
        self.breaks(START + " talk x z talk y z talk x", "z")

    def test_a_member_whose_talks_are_all_there_begins_no_talk(self):
        self.breaks(START + " talk y z talk", "y")
        self.breaks(START + " talk x z talk x y talk", "x")
        self.goes_wrong(START + " talk x z talk x y talk y z", "talk")
        pairs = [f" talk {a} {b}" for a in "vwxyz" for b in "vwxyz" if a < b]
        self.assertEqual(len(pairs), 10)
        text = "good a" + "".join(f" member {name}" for name in "vwxyz") + "".join(pairs)
        self.goes_wrong(text, "talk")

    def test_line_feeds_and_tabs(self):
        for text, _ in SAMPLES:
            words = words_of(text)
            for sign in ("\n", "\t"):
                self.refused(text + sign, len(words) - 1)
                self.refused(sign + text, 0)
                self.refused(text.replace(" ", sign), 0)
                for at in range(1, len(words)):
                    head = " ".join(words[:at])
                    tail = " ".join(words[at:])
                    self.refused(head + sign + tail, at - 1)
                    self.refused(head + " " + sign + " " + tail, at)


class OracleTest(unittest.TestCase):
    """Changed texts, against what point 5 says word by word."""

    def check(self, words):
        at = refused_at(" ".join(words))
        self.assertTrue(fault_at(words, at), (words, at))
        return at

    def test_one_word_changed(self):
        others = ["good", "member", "has", "talk", "recipe", "needs", "takes", "gives", "order"]
        others += ["a", "ann", "x", "0", ""]
        for text, _ in (LEAST, USUAL, SHARED):
            words = words_of(text)
            for at in range(len(words)):
                self.check(words[:at] + words[at + 1:])
                for other in others:
                    self.check(words[:at] + [other] + words[at + 1:])
                    self.check(words[:at] + [other] + words[at:])

    def test_changes_by_chance(self):
        source = Random(5)
        told = {}
        for _ in range(1500):
            words = words_of(source.choice(SAMPLES)[0])
            pool = words + KEYS + ["0", "5", "new", ""]
            for _ in range(source.randrange(1, 4)):
                first, last = sorted((source.randrange(len(words) + 1), source.randrange(len(words) + 1)))
                change = source.randrange(4)
                if change == 0:
                    words[first:first + 1] = [source.choice(pool)]
                elif change == 1:
                    words[first:first] = [source.choice(pool)]
                elif change == 2:
                    words[first:min(last, first + 3)] = []
                else:
                    words[last:last] = words[first:first + 3]
            if words not in ([], [""]):
                told[self.check(words) is None] = True
        self.assertEqual(len(told), 2)

    def test_texts_that_grow_by_chance(self):
        # Each word is one with which the text so far can go on, so that all limits are reached.
        source = Random(9)
        for _ in range(60):
            words = []
            names = ["a", "b", "c", "d", "e"][:source.randrange(1, 6)]
            for _ in range(60):
                choices = KEYS * 2 + names * 3 + ["0", "1", "9999"]
                source.shuffle(choices)
                # Goods and members are few where the key words for more of them are seldom tried first.
                tried = list(dict.fromkeys(choices))
                fitting = (None, len(words) + 1)
                right = [word for word in tried if refused_at(" ".join(words + [word])) in fitting]
                wrong = [word for word in tried if word not in right]
                self.check(words + wrong[:1])
                if not right:
                    break
                words.append(right[0])
                self.check(words)


class RoundTest(unittest.TestCase):
    def test_texts_that_are_read_come_back(self):
        source = Random(3)
        read = 0
        for _ in range(4000):
            words = words_of(source.choice((USUAL, GREATEST, SHARED))[0])
            first = source.randrange(len(words))
            words[first:first + source.randrange(1, 7)] = []
            text = " ".join(words)
            if refused_at(text) is None:
                read += 1
                self.assertEqual(house_text(read_house(text)), text)
        self.assertGreater(read, 100)


if __name__ == "__main__":
    unittest.main()
