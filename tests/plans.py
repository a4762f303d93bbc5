"""What points 8 to 10 say, worked out one step after the other, and houses to compare it on."""

from itertools import combinations, product
from random import Random

from nogroupleaves.house import House


def groups_of(count):
    return sorted(group for size in range(1, count + 1) for group in combinations(range(count), size))


def amount_of(house, group, plan):
    """What the plan earns, or None."""
    runs, filled = plan
    if len(runs) != len(house.recipes) or list(filled) != sorted(set(filled)):
        return None
    if any(many not in range(recipe[2] + 1) for many, recipe in zip(runs, house.recipes)):
        return None
    if not set(filled) <= set(range(len(house.orders))):
        return None
    stock = {good: 0 for good in range(len(house.goods))}
    for good, number in [held for member in group for held in house.members[member][1]]:
        stock[good] += number
    steps = [house.recipes[index] for index, many in enumerate(runs) for _ in range(many)]
    for _, _, _, needs, takes, gives in steps:
        if not set(needs) <= set(group) or any(stock[good] < number for good, number in takes):
            return None
        for good, number in takes:
            stock[good] -= number
        for good, number in gives:
            stock[good] += number
    for index in filled:
        for good, number in house.orders[index][2]:
            stock[good] -= number
    if min(stock.values()) < 0:
        return None
    return sum(house.orders[index][1] for index in filled) - sum(step[1] for step in steps)


def plans_of(house):
    """All plans, in ascending order."""
    indexes = range(len(house.orders))
    fillings = [filled for size in range(len(house.orders) + 1) for filled in combinations(indexes, size)]
    return sorted(product(product(*[range(recipe[2] + 1) for recipe in house.recipes]), fillings))


def best_of(house, group):
    """The greatest amount, and the first plan that earns it."""
    amounts = [(amount_of(house, group, plan), plan) for plan in plans_of(house)]
    greatest = max(amount for amount, _ in amounts if amount is not None)
    return next((amount, plan) for amount, plan in amounts if amount == greatest)


def can_act(house, group):
    whole = tuple(range(len(house.members)))
    if group == whole or not house.talks:
        return True
    friends = {member: {member} for member in group}
    for first, second in house.talks * len(group):
        if first in group and second in group:
            friends[first] |= friends[second]
            friends[second] |= friends[first]
    return all(friends[member] == set(group) for member in group)


def random_amounts(source, goods, most, least=0):
    chosen = source.sample(range(goods), source.randint(min(least, goods), min(goods, 3)))
    return tuple((good, source.randint(0, most)) for good in chosen)


def random_house(source):
    goods = source.randint(1, 4)
    count = source.randint(1, 5)
    names = ("a", "b", "c", "d", "e")
    members = [(name, random_amounts(source, goods, 5)) for name in names[:count]]
    pairs = list(combinations(range(count), 2))
    talks = source.sample(pairs, source.choice((0, len(pairs) // 3, len(pairs) // 2)))
    recipes = [
        (
            name,
            source.randint(0, 2),
            source.randint(1, 3),
            tuple(source.sample(range(count), source.randint(0, min(2, count)))),
            random_amounts(source, goods, 2),
            random_amounts(source, goods, 3),
        )
        for name in names[:source.randint(0, 3)]
    ]
    orders = [
        (name, source.randint(0, 9), random_amounts(source, goods, 5, 1)) for name in names[:source.randint(0, 4)]
    ]
    return House(names[:goods], members, talks, recipes, orders)


def random_houses(many):
    source = Random(8)
    return [random_house(source) for _ in range(many)]
