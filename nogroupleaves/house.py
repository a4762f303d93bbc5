"""Houses: their data, and the texts that write them."""

from nogroupleaves.errors import BadText
from nogroupleaves.parts import as_tuples

KEY_WORDS = (
    "good", "member", "has", "talk", "recipe", "cost", "times", "needs", "takes", "gives", "order", "pays",
)
MOST_LETTERS = 8
MOST_DIGITS = 4
MOST_GOODS = 4
MOST_MEMBERS = 5
MOST_RECIPES = 3
MOST_TIMES = 4
MOST_NEEDS = 2
MOST_ORDERS = 4


class House:
    """Members with their holdings, their talks, and the recipes and orders that they can use."""

    def __init__(self, goods, members, talks, recipes, orders):
        self.goods = as_tuples(goods)
        self.members = as_tuples(members)
        self.talks = as_tuples(talks)
        self.recipes = as_tuples(recipes)
        self.orders = as_tuples(orders)

    def __eq__(self, other):
        return (
            isinstance(other, House)
            and self.goods == other.goods
            and self.members == other.members
            and self.talks == other.talks
            and self.recipes == other.recipes
            and self.orders == other.orders
        )


def house_text(house):
    """The text that writes the house."""
    names = _names_of(house.members)
    words = []
    for name in house.goods:
        words.extend(["good", name])
    for name, holdings in house.members:
        words.extend(["member", name])
        words.extend(_amount_words("has", house.goods, holdings))
    for first, second in house.talks:
        words.extend(["talk", names[first], names[second]])
    for recipe in house.recipes:
        words.extend(_recipe_words(house.goods, names, recipe))
    for name, pay, takes in house.orders:
        words.extend(["order", name, "pays", str(pay)])
        words.extend(_amount_words("takes", house.goods, takes))
    return " ".join(words)


def _recipe_words(goods, names, recipe):
    name, cost, times, needs, takes, gives = recipe
    words = ["recipe", name, "cost", str(cost), "times", str(times)]
    for member in needs:
        words.extend(["needs", names[member]])
    words.extend(_amount_words("takes", goods, takes))
    words.extend(_amount_words("gives", goods, gives))
    return words


def _amount_words(key, goods, amounts):
    words = []
    for good, number in amounts:
        words.extend([key, goods[good], str(number)])
    return words


def read_house(text):
    """The house that the text writes.

    A part is begun only where it can also be ended: where no good, no member and
    no pair of members is left for it, its key word does not fit any more. So the
    first word that does not fit is the first one that no house's text goes on with.
    """
    words = text.split(" ") if text else []
    goods, at = _read_goods(words)
    members, at = _read_members(words, at, goods)
    names = _names_of(members)
    talks, at = _read_talks(words, at, names)
    recipes, at = _read_recipes(words, at, goods, names)
    orders, at = _read_orders(words, at, goods)
    if at < len(words):
        raise BadText(at)
    return House(goods, members, talks, recipes, orders)


# Each of the following readers begins at the word with the index `at`. Those for several
# words tell what they read and the index of the word behind it.


def _read_goods(words):
    goods = []
    at = 0
    while not goods or (len(goods) < MOST_GOODS and _word_is(words, at, "good")):
        _expect(words, at, "good")
        goods.append(_new_name(words, at + 1, goods))
        at += 2
    return goods, at


def _read_members(words, at, goods):
    members = []
    while not members or (len(members) < MOST_MEMBERS and _word_is(words, at, "member")):
        _expect(words, at, "member")
        name = _new_name(words, at + 1, _names_of(members))
        holdings, at = _read_amounts(words, at + 2, "has", goods)
        members.append((name, holdings))
    return members, at


def _read_talks(words, at, names):
    count = len(names)
    left = [(a, b) for a in range(count) for b in range(a + 1, count)]
    talks = []
    while left and _word_is(words, at, "talk"):
        first = _one_of(words, at + 1, names, [pair[0] for pair in left])
        second = _one_of(words, at + 2, names, [pair[1] for pair in left if pair[0] == first])
        talks.append((first, second))
        left.remove((first, second))
        at += 3
    return talks, at


def _read_recipes(words, at, goods, names):
    recipes = []
    while len(recipes) < MOST_RECIPES and _word_is(words, at, "recipe"):
        recipe, at = _read_recipe(words, at, _names_of(recipes), goods, names)
        recipes.append(recipe)
    return recipes, at


def _read_recipe(words, at, taken, goods, names):
    name = _new_name(words, at + 1, taken)
    _expect(words, at + 2, "cost")
    cost = _number(words, at + 3)
    _expect(words, at + 4, "times")
    times = _number(words, at + 5)
    if times < 1 or times > MOST_TIMES:
        raise BadText(at + 5)
    needs, at = _read_needs(words, at + 6, names)
    takes, at = _read_amounts(words, at, "takes", goods)
    gives, at = _read_amounts(words, at, "gives", goods)
    return (name, cost, times, needs, takes, gives), at


def _read_needs(words, at, names):
    left = list(range(len(names)))
    needs = []
    while left and len(needs) < MOST_NEEDS and _word_is(words, at, "needs"):
        member = _one_of(words, at + 1, names, left)
        needs.append(member)
        left.remove(member)
        at += 2
    return needs, at


def _read_orders(words, at, goods):
    orders = []
    while len(orders) < MOST_ORDERS and _word_is(words, at, "order"):
        name = _new_name(words, at + 1, _names_of(orders))
        _expect(words, at + 2, "pays")
        pay = _number(words, at + 3)
        _expect(words, at + 4, "takes")
        takes, at = _read_amounts(words, at + 4, "takes", goods)
        orders.append((name, pay, takes))
    return orders, at


def _read_amounts(words, at, key, goods):
    """Pairs of a good and a number, each behind the key word, with different goods."""
    left = list(range(len(goods)))
    amounts = []
    while left and _word_is(words, at, key):
        good = _one_of(words, at + 1, goods, left)
        amounts.append((good, _number(words, at + 2)))
        left.remove(good)
        at += 3
    return amounts, at


def _names_of(parts):
    """The names of members, recipes or orders."""
    return [part[0] for part in parts]


def _word_at(words, at):
    # An empty word fits nowhere, so it also serves as what stands behind the last one.
    return words[at] if at < len(words) else ""


def _word_is(words, at, word):
    return _word_at(words, at) == word


def _expect(words, at, word):
    if not _word_is(words, at, word):
        raise BadText(at)


def _new_name(words, at, taken):
    word = _word_at(words, at)
    if not _is_name(word) or word in taken:
        raise BadText(at)
    return word


def _one_of(words, at, names, indexes):
    """The one of the indexes whose name is the word."""
    for index in indexes:
        if _word_is(words, at, names[index]):
            return index
    raise BadText(at)


def _number(words, at):
    word = _word_at(words, at)
    if not _is_number(word):
        raise BadText(at)
    return int(word)


def _is_name(word):
    if not 1 <= len(word) <= MOST_LETTERS or word in KEY_WORDS:
        return False
    return all(["a" <= sign <= "z" for sign in word])


def _is_number(word):
    if not 1 <= len(word) <= MOST_DIGITS or (word[0] == "0" and word != "0"):
        return False
    return all(["0" <= sign <= "9" for sign in word])
