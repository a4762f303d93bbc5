"""Payments to the members, and the weights of groups that show what the payments are."""

from nogroupleaves.errors import NoPayments
from nogroupleaves.parts import whole_of
from nogroupleaves.ratio import Ratio, sum_of
from nogroupleaves.simplex import best_weights, rank
from nogroupleaves.table import complaint, complaint_levels, paid


def stay(table):
    """A right claim "stay", or, where there are no payments that hold, a right claim "leave"."""
    _, payments, weights = _least_subsidy(table)
    if weights:
        return ("leave", weights)
    return ("stay", payments)


def subsidy(table):
    """A right claim "subsidy"."""
    amount, payments, weights = _least_subsidy(table)
    return ("subsidy", amount, payments, weights)


def tax(table):
    """A right claim "tax"."""
    whole = whole_of(table.count)
    # A group of nobody that earns 0 keeps the greatest complaint from being below 0.
    rows = _rows_but_whole(table) + [((), Ratio(0))]
    amount, payments, weights = _least_complaint(table.count, rows, [(whole, table.earning(whole))])
    shown = weights if amount.num > 0 else ()
    return ("tax", amount, payments, shown)


def least_for(table, member):
    """A right claim "least"."""
    amount, payments, weights, rest = _least_pay(table, member, 1)
    return ("least", member, amount, payments, weights, rest)


def most_for(table, member):
    """A right claim "most"."""
    amount, payments, weights, rest = _least_pay(table, member, -1)
    return ("most", member, amount, payments, weights, rest)


def nearest(table, wishes):
    """A right claim "near"."""
    _expect_payments(table)
    whole = whole_of(table.count)
    rows = _rows_but_whole(table)
    # A payment differs from its wish by a part above it less a part below it, neither below 0.
    columns = [_both_signs(_marks(table.count, group)) for group in _groups_of(rows) + [whole]]
    columns.append([-mark for mark in columns[-1]])
    worths = [complaint(table, wishes, group) for group in _groups_of(rows) + [whole]]
    worths.append(Ratio(0) - worths[-1])
    for place in range(2 * table.count):
        columns.append(_marks(2 * table.count, (place,)))
        worths.append(Ratio(0))
    weights, parts = best_weights(columns, [1] * (2 * table.count), worths)
    above, below = parts[:table.count], parts[table.count:]
    payments = tuple([wish + more - fewer for wish, more, fewer in zip(wishes, above, below)])
    rest = weights[len(rows)] - weights[len(rows) + 1]
    return ("near", tuple(wishes), sum_of(parts), payments, _weighed(rows, weights), rest)


def fairest(table):
    """A right claim "fair"."""
    payments = _fairest_payments(table)
    return ("fair", payments, _levels(table, payments))


def _least_subsidy(table):
    """The amount, the payments and the weights of a right claim "subsidy".

    The whole has a weight, too, as it is paid at least its earning. If the amount is more
    than 0, this weight is 0, as then the whole is paid more than that.
    """
    columns = [_marks(table.count, group) for group in _groups_of(table.rows)]
    weights, payments = best_weights(columns, [1] * table.count, [row[1] for row in table.rows])
    amount = sum_of(payments) - table.earning(whole_of(table.count))
    shown = _weighed(table.rows, weights) if amount.num > 0 else ()
    return amount, tuple(payments), shown


def _expect_payments(table):
    """Raises NoPayments if there are no payments that hold."""
    _, _, weights = _least_subsidy(table)
    if weights:
        raise NoPayments(weights)


def _least_pay(table, member, sign):
    """The amount, the payments, the weights and the rest of a right claim "least", or "most" for the sign -1."""
    _expect_payments(table)
    whole = whole_of(table.count)
    rows = _rows_but_whole(table)
    columns = [[sign * mark for mark in _marks(table.count, group)] for group in _groups_of(rows) + [whole]]
    columns.append([-mark for mark in columns[-1]])
    worths = [table.earning(group) for group in _groups_of(rows) + [whole]]
    worths.append(Ratio(0) - worths[-1])
    weights, prices = best_weights(columns, _marks(table.count, (member,)), worths)
    payments = tuple([Ratio(sign) * price for price in prices])
    # The rest may have any sign: it is the weight of the whole less that of its opposite.
    rest = weights[len(rows)] - weights[len(rows) + 1]
    return payments[member], payments, _weighed(rows, weights), rest


def _least_complaint(count, rows, fixed):
    """The least greatest complaint of the groups of the rows, payments for it, and weights that show it.

    Fixed are pairs of a group, perhaps the whole, and what it is paid exactly. The weights add
    up to 1, and the covers are a sum of marks of fixed groups.
    """
    columns = [_marks(count, group) + [1] for group in _groups_of(rows)]
    worths = [row[1] for row in rows]
    for group, pay in fixed:
        marks = _marks(count, group)
        columns.extend([marks + [0], [-mark for mark in marks] + [0]])
        worths.extend([pay, Ratio(0) - pay])
    weights, prices = best_weights(columns, [0] * count + [1], worths)
    return prices[-1], tuple(prices[:-1]), _weighed(rows, weights)


def _fairest_payments(table):
    """The fairest payments.

    In each round the greatest complaint is made as small as it can be, of those groups whose
    pay is not settled by that of the fixed groups. The groups that get a weight have this
    complaint in all payments that are as good, so what they are paid is fixed, too.
    """
    whole = whole_of(table.count)
    payments = (table.earning(whole),) + (Ratio(0),) * (table.count - 1)
    fixed = [whole]
    while len(fixed) < table.count:
        rows = [row for row in table.rows if not _is_settled(table.count, fixed, row[0])]
        pays = [(group, paid(payments, group)) for group in fixed]
        _, payments, weights = _least_complaint(table.count, rows, pays)
        for group in _groups_of(weights):
            if not _is_settled(table.count, fixed, group):
                fixed.append(group)
    return payments


def _is_settled(count, fixed, group):
    """True if what the group is paid follows from what the fixed groups are paid, none of whom follows."""
    return rank([_marks(count, other) for other in fixed + [group]]) == len(fixed)


def _levels(table, payments):
    """The levels of a right claim "fair".

    The weights of a level are the mean of covers found for it and for those before it, such
    that each group of the level is in one of them.
    """
    sums = {}
    covers = 0
    levels = []
    for least, chosen in complaint_levels(table, payments):
        for group in chosen:
            if group not in sums:
                covers += 1
                for other, weight in _cover_with(table.count, chosen, group):
                    sums[other] = sums.get(other, Ratio(0)) + weight
        weights = [(group, sums[group].over(Ratio(covers))) for group in chosen]
        levels.append((least, tuple(weights)))
    return tuple(levels)


def _cover_with(count, groups, chosen):
    """Weights of some of the groups with which each member has the cover 1; the chosen group has one."""
    columns = [_marks(count, group) for group in groups]
    rows = [(group, Ratio(1 if group == chosen else 0)) for group in groups]
    weights, _ = best_weights(columns, [1] * count, [row[1] for row in rows])
    return _weighed(rows, weights)


def _rows_but_whole(table):
    whole = whole_of(table.count)
    return [row for row in table.rows if row[0] != whole]


def _groups_of(rows):
    return [row[0] for row in rows]


def _weighed(rows, weights):
    """Pairs of a group and its weight, for the rows that have one; other columns may stand behind them."""
    return tuple([(row[0], weight) for row, weight in zip(rows, weights) if weight.num > 0])


def _marks(count, group):
    return [1 if member in group else 0 for member in range(count)]


def _both_signs(marks):
    return marks + [-mark for mark in marks]
