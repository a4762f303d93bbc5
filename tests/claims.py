"""What points 13 to 21 state of claims, checked with Python's own fractions from the rows of a table.

`faults` tells the sentences that do not hold, so an empty list says that the claim is right.
"""

from nogroupleaves.errors import NoPayments
from nogroupleaves.pay import fairest, least_for, most_for, nearest, stay, subsidy, tax
from nogroupleaves.ratio import Ratio
from tables import fraction

# The parts of a claim of each form, in their order.
LAYOUT = {
    "stay": ("payments",),
    "leave": ("weights",),
    "subsidy": ("amount", "payments", "weights"),
    "tax": ("amount", "payments", "weights"),
    "least": ("member", "amount", "payments", "weights", "rest"),
    "most": ("member", "amount", "payments", "weights", "rest"),
    "near": ("wishes", "amount", "payments", "weights", "rest"),
    "fair": ("payments", "levels"),
}


class View:
    """A table as a dict of fractions, and what is worked out from it."""

    def __init__(self, table):
        self.count = table.count
        self.whole = tuple(range(table.count))
        self.earnings = {group: fraction(earning) for group, earning in table.rows}
        self.leavers = [group for group in self.earnings if group != self.whole]

    def complaint(self, payments, group):
        return self.earnings[group] - sum(fraction(payments[member]) for member in group)

    def row(self, payments):
        """All complaints, from the greatest one down."""
        return sorted([self.complaint(payments, group) for group in self.leavers], reverse=True)

    def gains(self, payments):
        return [group for group in self.leavers if self.complaint(payments, group) > 0]

    def holds(self, payments):
        return self.complaint(payments, self.whole) == 0 and not self.gains(payments)

    def covers(self, weights):
        return [sum(fraction(weight) for group, weight in weights if member in group) for member in self.whole]

    def weighted(self, weights):
        return sum(self.earnings[group] * fraction(weight) for group, weight in weights)


def is_ratios(parts, count):
    return type(parts) is tuple and len(parts) == count and all(isinstance(part, Ratio) for part in parts)


def is_pairs(parts):
    return type(parts) is tuple and all(type(pair) is tuple and len(pair) == 2 for pair in parts)


def weight_faults(view, weights):
    """Point 13: groups that can act, but not the whole, in ascending order, with fractions more than 0."""
    if not is_pairs(weights):
        return ["weights are no tuple of pairs"]
    groups = [group for group, _ in weights]
    if any(group not in view.leavers for group in groups):
        return ["a group cannot act, or is the whole"]
    found = [] if groups == sorted(set(groups)) else ["groups are not in ascending order"]
    if not all(isinstance(weight, Ratio) and weight.num > 0 for _, weight in weights):
        found.append("a weight is not more than 0")
    return found


def unfit(view, kind, part):
    """What keeps a part from being one of a claim about the table at all."""
    if kind in ("payments", "wishes"):
        return [] if is_ratios(part, view.count) else [f"{kind} are not a fraction for each member"]
    if kind in ("amount", "rest"):
        return [] if isinstance(part, Ratio) else [f"{kind} is no fraction"]
    if kind == "member":
        return [] if type(part) is int and part in view.whole else ["no such member"]
    if kind == "weights":
        return weight_faults(view, part)
    if not is_pairs(part) or not is_ratios(tuple(least for least, _ in part), len(part)):
        return ["levels are no tuple of pairs with fractions"]
    return [fault for _, weights in part for fault in weight_faults(view, weights)]


def false_ones(sentences):
    return [sentence for sentence, is_true in sentences.items() if not is_true]


def faults(table, claim):
    view = View(table)
    if type(claim) is not tuple or claim[0] not in LAYOUT or len(claim) != len(LAYOUT[claim[0]]) + 1:
        return ["no form of a claim"]
    found = [fault for kind, part in zip(LAYOUT[claim[0]], claim[1:]) for fault in unfit(view, kind, part)]
    return found or CHECKS[claim[0]](view, *claim[1:])


# The sentences of each form, for claims whose parts all fit the table.


def stay_faults(view, payments):
    return [] if view.holds(payments) else ["the payments hold"]


def leave_faults(view, weights):
    return false_ones({
        "each cover is 1": view.covers(weights) == [1] * view.count,
        "weighted earning": view.weighted(weights) > view.earnings[view.whole],
    })


def subsidy_faults(view, amount, payments, weights):
    least = fraction(amount)
    return false_ones({
        "paid the amount more": view.complaint(payments, view.whole) == -least,
        "no group gains": not view.gains(payments),
        "amount": least >= 0,
        "no weights": least > 0 or weights == (),
        "each cover is 1": least == 0 or view.covers(weights) == [1] * view.count,
        "weighted earning": least == 0 or view.weighted(weights) == view.earnings[view.whole] + least,
    })


def tax_faults(view, amount, payments, weights):
    least, covers = fraction(amount), view.covers(weights)
    earning = view.weighted(weights) - covers[0] * view.earnings[view.whole]
    return false_ones({
        "paid exactly": view.complaint(payments, view.whole) == 0,
        "no complaint is more": all(complaint <= least for complaint in view.row(payments)),
        "amount": least >= 0,
        "no weights": least > 0 or weights == (),
        "one cover": least == 0 or len(set(covers)) == 1,
        "sum of weights": least == 0 or sum(fraction(weight) for _, weight in weights) == 1,
        "weighted earning": least == 0 or earning == least,
    })


def pay_faults(view, sign, member, amount, payments, weights, rest):
    spare = fraction(rest)
    totals = [cover + spare for cover in view.covers(weights)]
    earning = view.weighted(weights) + spare * view.earnings[view.whole]
    return false_ones({
        "the payments hold": view.holds(payments),
        "paid the amount": payments[member] == amount,
        "covers": totals == [sign if other == member else 0 for other in view.whole],
        "weighted earning": earning == sign * fraction(amount),
    })


def least_faults(view, *parts):
    return pay_faults(view, 1, *parts)


def most_faults(view, *parts):
    return pay_faults(view, -1, *parts)


def near_faults(view, wishes, amount, payments, weights, rest):
    spare = fraction(rest)
    worth = sum(fraction(weight) * view.complaint(wishes, group) for group, weight in weights)
    return false_ones({
        "the payments hold": view.holds(payments),
        "differences": sum(abs(fraction(a - b)) for a, b in zip(payments, wishes)) == fraction(amount),
        "covers": all(-1 <= cover + spare <= 1 for cover in view.covers(weights)),
        "worth": worth + spare * view.complaint(wishes, view.whole) == fraction(amount),
    })


def fair_faults(view, payments, levels):
    found = []
    for least, weights in levels:
        high = {group for group in view.leavers if view.complaint(payments, group) >= fraction(least)}
        found += false_ones({
            "groups of the level": {group for group, _ in weights} == high,
            "each cover is 1": view.covers(weights) == [1] * view.count,
        })
    return found + false_ones({
        "paid exactly": view.complaint(payments, view.whole) == 0,
        "levels": [fraction(least) for least, _ in levels] == sorted(set(view.row(payments)), reverse=True),
    })


CHECKS = {
    "stay": stay_faults, "leave": leave_faults, "subsidy": subsidy_faults, "tax": tax_faults, "least": least_faults,
    "most": most_faults, "near": near_faults, "fair": fair_faults,
}


def claims_of(table, wishes):
    """The claims of all functions of pay.py; those that raise NoPayments tell a claim "leave" instead."""
    def told(function, argument):
        try:
            return function(table, argument)
        except NoPayments as error:
            return ("leave", error.weights)
    bounds = [told(function, member) for function in (least_for, most_for) for member in range(table.count)]
    return [stay(table), subsidy(table), tax(table), fairest(table), told(nearest, wishes)] + bounds


def ratios_in(part):
    """All fractions in a claim or a part of it."""
    if isinstance(part, Ratio):
        return [part]
    return [ratio for item in part for ratio in ratios_in(item)] if isinstance(part, tuple) else []
