"""What groups earn with what their members hold: plans and the best plan."""

from nogroupleaves.parts import ascending_tuples


def earned(house, group, plan):
    """The amount that the plan earns for the group, or None if it is no plan or cannot be done."""
    runs, filled = plan
    if not _are_runs(house, runs) or not _are_filled(house, filled):
        return None
    stock = _stock_after(house, group, runs)
    if stock is None or not _has_all(stock, _taken(house, filled)):
        return None
    return _pay(house, filled) - _cost(house, runs)


def best_plan(house, group):
    """A pair of the greatest amount that a plan earns for the group, and the first plan that earns it."""
    fillings = [(filled, _taken(house, filled), _pay(house, filled)) for filled in _all_filled(house)]
    best = None
    for runs in _all_runs(house):
        stock = _stock_after(house, group, runs)
        if stock is not None:
            cost = _cost(house, runs)
            for filled, taken, pay in fillings:
                # Plans come in ascending order, so only a greater amount replaces an earlier plan.
                if (best is None or pay - cost > best[0]) and _has_all(stock, taken):
                    best = (pay - cost, (runs, filled))
    return best


def _are_runs(house, runs):
    if len(runs) != len(house.recipes):
        return False
    return all([0 <= many <= recipe[2] for many, recipe in zip(runs, house.recipes)])


def _are_filled(house, filled):
    # An ascending tuple of indexes is within the range if its first and its last index are.
    ascending = all([filled[at] < filled[at + 1] for at in range(len(filled) - 1)])
    return ascending and (not filled or (filled[0] >= 0 and filled[-1] < len(house.orders)))


def _all_runs(house):
    found = [()]
    for recipe in house.recipes:
        found = [runs + (many,) for runs in found for many in range(recipe[2] + 1)]
    return found


def _all_filled(house):
    return [()] + ascending_tuples(len(house.orders))


def _stock_after(house, group, runs):
    """The stock of the group behind the runs, or None if they cannot be done."""
    stock = [0] * len(house.goods)
    for member in group:
        _put(stock, house.members[member][1])
    for recipe, many in zip(house.recipes, runs):
        if many > 0 and not _has_needed(group, recipe):
            return None
        for _ in range(many):
            if not _has_all(stock, recipe[4]):
                return None
            _take(stock, recipe[4])
            _put(stock, recipe[5])
    return stock


def _has_needed(group, recipe):
    return all([member in group for member in recipe[3]])


def _has_all(stock, amounts):
    return all([stock[good] >= number for good, number in amounts])


def _put(stock, amounts):
    for good, number in amounts:
        stock[good] += number


def _take(stock, amounts):
    for good, number in amounts:
        stock[good] -= number


def _taken(house, filled):
    """What the filled orders take together: pairs of a good and a number, one for each good."""
    taken = [0] * len(house.goods)
    for order in filled:
        _put(taken, house.orders[order][2])
    return list(enumerate(taken))


def _pay(house, filled):
    return sum([house.orders[order][1] for order in filled])


def _cost(house, runs):
    return sum([many * recipe[1] for many, recipe in zip(runs, house.recipes)])
