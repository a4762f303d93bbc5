import copy
import unittest

from nogroupleaves.house import House, house_text, read_house
from samples import GREATEST, LEAST, SAMPLES, SHARED, USUAL

FIELDS = ("goods", "members", "talks", "recipes", "orders")


def fields(house):
    return tuple(getattr(house, name) for name in FIELDS)


def as_lists(part):
    return [as_lists(item) for item in part] if isinstance(part, (tuple, list)) else part


def spoil(part):
    """Changes a list and each list in it."""
    for item in part:
        if isinstance(item, list):
            spoil(item)
    part.append("spoiled")


def all_tuples(part):
    return isinstance(part, (str, int)) or (isinstance(part, tuple) and all(all_tuples(item) for item in part))


def changed(part):
    """The parts that differ from the part in one thing: a name, a number, the order or the count."""
    if isinstance(part, str):
        return [part + "x"]
    if isinstance(part, int):
        return [part + 1]
    others = [part + (part[-1] if part else "more",)]
    for at, item in enumerate(part):
        others.append(part[:at] + part[at + 1:])
        others.extend(part[:at] + (other,) + part[at + 1:] for other in changed(item))
    if part and part[::-1] != part:
        others.append(part[::-1])
    return others


class ReadTest(unittest.TestCase):
    def test_fields(self):
        for text, expected in SAMPLES:
            house = read_house(text)
            self.assertIsInstance(house, House)
            self.assertEqual(fields(house), expected)
            self.assertTrue(all_tuples(fields(house)))

    def test_by_name(self):
        self.assertEqual(fields(read_house(text=LEAST[0])), LEAST[1])

    def test_text_again(self):
        for text, expected in SAMPLES:
            house = read_house(text)
            self.assertEqual(house_text(house), text)
            self.assertEqual(house_text(house=house), text)
            self.assertEqual(fields(house), expected)

    def test_text_of_a_house_that_was_made(self):
        for text, expected in SAMPLES:
            self.assertEqual(house_text(House(*expected)), text)
            self.assertEqual(house_text(House(*as_lists(expected))), text)

    def test_each_count(self):
        for goods in range(1, 5):
            for members in range(1, 6):
                for holdings in range(goods + 1):
                    text = " ".join(
                        [f"good {'g' * (k + 1)}" for k in range(goods)]
                        + [
                            f"member {'m' * (m + 1)}" + "".join(f" has {'g' * (k + 1)} {k}" for k in range(holdings))
                            for m in range(members)
                        ]
                    )
                    house = read_house(text)
                    self.assertEqual(len(house.goods), goods)
                    self.assertEqual([len(held) for _, held in house.members], [holdings] * members)
                    self.assertEqual(house_text(house), text)

    def test_each_count_of_recipes_and_orders(self):
        for recipes in range(4):
            for orders in range(5):
                text = LEAST[0]
                text += "".join(f" recipe {'r' * (k + 1)} cost {k} times {k + 1}" for k in range(recipes))
                text += "".join(f" order {'o' * (k + 1)} pays {k} takes a {k}" for k in range(orders))
                house = read_house(text)
                self.assertEqual((len(house.recipes), len(house.orders)), (recipes, orders))
                self.assertEqual(house_text(house), text)

    def test_each_times(self):
        for times in range(1, 5):
            house = read_house(f"{LEAST[0]} recipe r cost 1 times {times}")
            self.assertEqual(house.recipes, (("r", 1, times, (), (), ()),))

    def test_names(self):
        for name in ("a", "z", "abcdefgh", "zzzzzzzz", "goods", "ha", "pay", "n", "costs"):
            text = f"good {name} member {name} has {name} 0"
            house = read_house(text)
            self.assertEqual((house.goods, house.members), ((name,), ((name, ((0, 0),)),)))
            self.assertEqual(house_text(house), text)

    def test_numbers(self):
        for number in (0, 1, 9, 10, 99, 100, 999, 1000, 9999):
            text = f"good a member b has a {number}"
            house = read_house(text)
            self.assertEqual(house.members, (("b", ((0, number),)),))
            self.assertEqual(house_text(house), text)


class EqualTest(unittest.TestCase):
    def test_equal(self):
        for text, expected in SAMPLES:
            house = read_house(text)
            self.assertTrue(house == read_house(text))
            self.assertFalse(house != read_house(text))
            self.assertTrue(house == House(*expected))
            self.assertTrue(House(**dict(zip(FIELDS, expected))) == house)

    def test_equal_to_one_that_was_made_of_lists(self):
        for text, expected in SAMPLES:
            house = House(*as_lists(expected))
            self.assertTrue(house == read_house(text))
            self.assertTrue(read_house(text) == house)
            self.assertEqual(fields(house), expected)
            self.assertTrue(all_tuples(fields(house)))

    def test_unequal(self):
        for _, expected in SAMPLES:
            house = House(*expected)
            for at in range(len(FIELDS)):
                others = changed(expected[at])
                self.assertTrue(others)
                for other in others:
                    differing = House(*expected[:at], other, *expected[at + 1:])
                    self.assertFalse(house == differing, (at, other))
                    self.assertTrue(differing != house, (at, other))

    def test_samples_are_unequal(self):
        houses = [read_house(text) for text, _ in SAMPLES]
        for first in range(len(houses)):
            for second in range(len(houses)):
                self.assertEqual(houses[first] == houses[second], first == second)

    def test_unequal_to_other_things(self):
        house = read_house(LEAST[0])
        for other in (LEAST[1], LEAST[0], None, 0):
            self.assertFalse(house == other)


class CopyTest(unittest.TestCase):
    def test_lists_are_copied(self):
        for text, expected in (USUAL, GREATEST, SHARED):
            given = as_lists(expected)
            house = House(*given)
            spoil(given)
            self.assertEqual(fields(house), expected)
            self.assertEqual(house_text(house), text)

    def test_lists_are_not_changed(self):
        for _, expected in SAMPLES:
            given = as_lists(expected)
            before = copy.deepcopy(given)
            house_text(House(*given))
            self.assertEqual(given, before)


if __name__ == "__main__":
    unittest.main()
