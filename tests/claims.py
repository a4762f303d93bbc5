"""What points 13 to 21 state of claims, checked with Python's own fractions from the rows of a table.

`faults` tells the sentences that do not hold, so an empty list says that the claim is right.
"""

from nogroupleaves.ratio import Ratio
from tables import fraction

LENGTHS = {"stay": 2, "leave": 2, "subsidy": 4, "tax": 4, "least": 6, "most": 6, "near": 6, "fair": 3}


class View:
    """A table as a dict of fractions, and what is worked out from it."""

    def __init__(self, table):
        self.count = table.count
        self.whole = tuple(range(table.count))
        self.earnings = {group: fraction(earning) for group, earning in table.rows}
        self.leavers = [group for group in self.earnings if group != self.whole]

    def complaint(self, payments, group):
        return self.earnings[group] - sum(fraction(payments[member]) for member in group)

    def row(self, payments):
        """All complaints, from the greatest one down."""
        return sorted([self.complaint(payments, group) for group in self.leavers], reverse=True)

    def gains(self, payments):
        return [group for group in self.leavers if self.complaint(payments, group) > 0]

    def holds(self, payments):
        return self.complaint(payments, self.whole) == 0 and not self.gains(payments)

    def covers(self, weights):
        return [sum(fraction(weight) for group, weight in weights if member in group) for member in self.whole]

    def weighted(self, weights):
        return sum(self.earnings[group] * fraction(weight) for group, weight in weights)


def is_ratios(parts, count):
    return type(parts) is tuple and len(parts) == count and all(isinstance(part, Ratio) for part in parts)


def weight_faults(view, weights):
    """Point 13: groups that can act, but not the whole, in ascending order, with fractions more than 0."""
    if type(weights) is not tuple or any(type(pair) is not tuple or len(pair) != 2 for pair in weights):
        return ["weights are no tuple of pairs"]
    groups = [group for group, _ in weights]
    if any(group not in view.leavers for group in groups):
        return ["a group cannot act, or is the whole"]
    found = [] if groups == sorted(set(groups)) else ["groups are not in ascending order"]
    if not all(isinstance(weight, Ratio) and weight.num > 0 for _, weight in weights):
        found.append("a weight is not more than 0")
    return found


def false_ones(sentences):
    return [sentence for sentence, is_true in sentences.items() if not is_true]


def faults(table, claim):
    view = View(table)
    if type(claim) is not tuple or len(claim) != LENGTHS.get(claim[0]):
        return ["no form of a claim"]
    return CHECKS[claim[0]](view, *claim[1:])


def stay_faults(view, payments):
    if not is_ratios(payments, view.count):
        return ["payments are no fractions"]
    return [] if view.holds(payments) else ["the payments hold"]


def leave_faults(view, weights):
    return weight_faults(view, weights) or false_ones({
        "each cover is 1": view.covers(weights) == [1] * view.count,
        "weighted earning": view.weighted(weights) > view.earnings[view.whole],
    })


def subsidy_faults(view, amount, payments, weights):
    if not is_ratios((amount,) + payments, view.count + 1):
        return ["amount and payments are no fractions"]
    least = fraction(amount)
    return weight_faults(view, weights) or false_ones({
        "paid the amount more": view.complaint(payments, view.whole) == -least,
        "no group gains": not view.gains(payments),
        "amount": least >= 0,
        "no weights": least > 0 or weights == (),
        "each cover is 1": least == 0 or view.covers(weights) == [1] * view.count,
        "weighted earning": least == 0 or view.weighted(weights) == view.earnings[view.whole] + least,
    })


def tax_faults(view, amount, payments, weights):
    if not is_ratios((amount,) + payments, view.count + 1):
        return ["amount and payments are no fractions"]
    least, covers = fraction(amount), view.covers(weights)
    earning = view.weighted(weights) - covers[0] * view.earnings[view.whole]
    return weight_faults(view, weights) or false_ones({
        "paid exactly": view.complaint(payments, view.whole) == 0,
        "no complaint is more": all(complaint <= least for complaint in view.row(payments)),
        "amount": least >= 0,
        "no weights": least > 0 or weights == (),
        "one cover": len(set(covers)) == 1,
        "sum of weights": least == 0 or sum(fraction(weight) for _, weight in weights) == 1,
        "weighted earning": least == 0 or earning == least,
    })


def pay_faults(view, sign, member, amount, payments, weights, rest):
    if not is_ratios((amount, rest) + payments, view.count + 2):
        return ["amount, rest and payments are no fractions"]
    if type(member) is not int or member not in view.whole:
        return ["no such member"]
    spare = fraction(rest)
    totals = [cover + spare for cover in view.covers(weights)]
    earning = view.weighted(weights) + spare * view.earnings[view.whole]
    return weight_faults(view, weights) or false_ones({
        "the payments hold": view.holds(payments),
        "paid the amount": payments[member] == amount,
        "covers": totals == [sign if other == member else 0 for other in view.whole],
        "weighted earning": earning == sign * fraction(amount),
    })


def least_faults(view, *parts):
    return pay_faults(view, 1, *parts)


def most_faults(view, *parts):
    return pay_faults(view, -1, *parts)


def near_faults(view, wishes, amount, payments, weights, rest):
    if not is_ratios((amount, rest) + payments + wishes, 2 * view.count + 2):
        return ["amount, rest, payments and wishes are no fractions"]
    spare = fraction(rest)
    worth = sum(fraction(weight) * view.complaint(wishes, group) for group, weight in weights)
    return weight_faults(view, weights) or false_ones({
        "the payments hold": view.holds(payments),
        "differences": sum(abs(fraction(a - b)) for a, b in zip(payments, wishes)) == fraction(amount),
        "covers": all(-1 <= cover + spare <= 1 for cover in view.covers(weights)),
        "worth": worth + spare * view.complaint(wishes, view.whole) == fraction(amount),
    })


def fair_faults(view, payments, levels):
    if not is_ratios(payments, view.count):
        return ["payments are no fractions"]
    if type(levels) is not tuple or any(type(level) is not tuple or len(level) != 2 for level in levels):
        return ["levels are no tuple of pairs"]
    if not is_ratios(tuple(least for least, _ in levels), len(levels)):
        return ["complaints are no fractions"]
    found = [fault for _, weights in levels for fault in weight_faults(view, weights)]
    for least, weights in levels:
        high = {group for group in view.leavers if view.complaint(payments, group) >= fraction(least)}
        found += false_ones({
            "groups of the level": {group for group, _ in weights} == high,
            "each cover is 1": view.covers(weights) == [1] * view.count,
        })
    return found + false_ones({
        "paid exactly": view.complaint(payments, view.whole) == 0,
        "levels": [fraction(least) for least, _ in levels] == sorted(set(view.row(payments)), reverse=True),
    })


CHECKS = {
    "stay": stay_faults, "leave": leave_faults, "subsidy": subsidy_faults, "tax": tax_faults, "least": least_faults,
    "most": most_faults, "near": near_faults, "fair": fair_faults,
}


def ratios_in(part):
    """All fractions in a claim or a part of it."""
    if isinstance(part, Ratio):
        return [part]
    return [ratio for item in part for ratio in ratios_in(item)] if isinstance(part, tuple) else []
