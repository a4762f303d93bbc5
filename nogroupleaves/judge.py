"""The judge: whether a claim is right for a table, checked without searching.

Each check asks first whether payments and weights fit the table, as only then sums can be made of them.
"""

from nogroupleaves.parts import is_ascending, whole_of
from nogroupleaves.ratio import Ratio, sum_of
from nogroupleaves.table import complaint, complaint_levels, gains, holds_on, leavers


def _stay_is_right(table, claim):
    _, payments = claim
    return _hold(table, payments)


def _leave_is_right(table, claim):
    _, weights = claim
    return _is_cover(table, weights) and _whole_earning(table).less(_weighted_earning(table, weights))


def _subsidy_is_right(table, claim):
    _, amount, payments, weights = claim
    if not _are_for_all(table, payments) or gains(table, payments):
        return False
    if amount.num < 0 or complaint(table, payments, whole_of(table.count)) != Ratio(0) - amount:
        return False
    if amount.num == 0:
        return len(weights) == 0
    return _is_cover(table, weights) and _weighted_earning(table, weights) == _whole_earning(table) + amount


def _tax_is_right(table, claim):
    _, amount, payments, weights = claim
    if not _pay_exactly(table, payments) or amount.num < 0:
        return False
    if any([amount.less(complaint(table, payments, group)) for group in leavers(table)]):
        return False
    if amount.num == 0:
        return len(weights) == 0
    return _are_weights(table, weights) and _shows_tax(table, weights, amount)


def _shows_tax(table, weights, amount):
    """True if the weights add up to 1, and show with one cover for all that no lesser amount suffices."""
    covers = _covers(table, weights)
    worth = _weighted_earning(table, weights) - covers[0] * _whole_earning(table)
    return (
        all([cover == covers[0] for cover in covers])
        and sum_of([weight for _, weight in weights]) == Ratio(1)
        and worth == amount
    )


def _least_is_right(table, claim):
    return _bound_is_right(table, claim, Ratio(1))


def _most_is_right(table, claim):
    return _bound_is_right(table, claim, Ratio(-1))


def _bound_is_right(table, claim, sign):
    """True if the claim is right that the member is paid the amount and, times the sign, never less."""
    _, member, amount, payments, weights, rest = claim
    if not _hold(table, payments) or member not in whole_of(table.count) or payments[member] != amount:
        return False
    if not _are_weights(table, weights):
        return False
    wanted = [sign if other == member else Ratio(0) for other in whole_of(table.count)]
    worth = _weighted_earning(table, weights) + rest * _whole_earning(table)
    return [cover + rest for cover in _covers(table, weights)] == wanted and worth == sign * amount


def _near_is_right(table, claim):
    _, wishes, amount, payments, weights, rest = claim
    if not _hold(table, payments) or not _are_for_all(table, wishes) or not _are_weights(table, weights):
        return False
    if sum_of([_without_sign(pay - wish) for pay, wish in zip(payments, wishes)]) != amount:
        return False
    if any([Ratio(1).less(_without_sign(cover + rest)) for cover in _covers(table, weights)]):
        return False
    worths = [weight * complaint(table, wishes, group) for group, weight in weights]
    return sum_of(worths) + rest * complaint(table, wishes, whole_of(table.count)) == amount


def _fair_is_right(table, claim):
    _, payments, levels = claim
    if not _pay_exactly(table, payments):
        return False
    wanted = complaint_levels(table, payments)
    if [level[0] for level in levels] != [least for least, _ in wanted]:
        return False
    return all([_is_level(table, level[1], groups) for level, (_, groups) in zip(levels, wanted)])


def _is_level(table, weights, groups):
    return [group for group, _ in weights] == groups and _is_cover(table, weights)


def _are_for_all(table, payments):
    return len(payments) == table.count


def _pay_exactly(table, payments):
    return _are_for_all(table, payments) and complaint(table, payments, whole_of(table.count)).num == 0


def _hold(table, payments):
    return _are_for_all(table, payments) and holds_on(table, payments)


def _are_weights(table, weights):
    groups = [group for group, _ in weights]
    allowed = leavers(table)
    return (
        all([group in allowed for group in groups])
        and is_ascending(groups)
        and all([weight.num > 0 for _, weight in weights])
    )


def _is_cover(table, weights):
    """True if these are weights with which each member has the cover 1."""
    return _are_weights(table, weights) and all([cover == Ratio(1) for cover in _covers(table, weights)])


def _covers(table, weights):
    """The list of the covers of all members."""
    return [
        sum_of([weight for group, weight in weights if member in group]) for member in whole_of(table.count)
    ]


def _weighted_earning(table, weights):
    return sum_of([table.earning(group) * weight for group, weight in weights])


def _whole_earning(table):
    return table.earning(whole_of(table.count))


def _without_sign(ratio):
    return Ratio(abs(ratio.num), ratio.den)


CHECKS = {
    "stay": _stay_is_right,
    "leave": _leave_is_right,
    "subsidy": _subsidy_is_right,
    "tax": _tax_is_right,
    "least": _least_is_right,
    "most": _most_is_right,
    "near": _near_is_right,
    "fair": _fair_is_right,
}


def is_right(table, claim):
    """True if the claim is right for the table, otherwise False."""
    check = CHECKS[claim[0]]
    return check(table, claim)
