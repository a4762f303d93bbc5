"""Tables of what groups earn, and what payments and splits come to in them."""

from nogroupleaves.earn import best_plan
from nogroupleaves.errors import BadTable
from nogroupleaves.parts import as_tuples, ascending_tuples, is_ascending, is_group, whole_of
from nogroupleaves.ratio import Ratio, over_one_den, sum_of

MOST_COUNT = 5


class Table:
    """The earning of each group that can act."""

    def __init__(self, count, rows):
        self.count = count
        self.rows = as_tuples(rows)
        what = _fault(count, [row[0] for row in self.rows])
        if what is not None:
            raise BadTable(what)

    def __eq__(self, other):
        return isinstance(other, Table) and self.count == other.count and self.rows == other.rows

    def earning(self, group):
        """The earning of the group, or None if it cannot act."""
        for row in self.rows:
            if row[0] == group:
                return row[1]
        return None


def _fault(count, groups):
    """The word of the first fault of a table, in the order in which they are told, or None."""
    if not 1 <= count <= MOST_COUNT:
        return "count"
    if not all([is_group(count, group) for group in groups]):
        return "group"
    if not is_ascending(groups):
        return "order"
    if not all([(member,) in groups for member in range(count)]):
        return "single"
    if whole_of(count) not in groups:
        return "whole"
    return None


def acting(house):
    """The list of the groups that can act, in ascending order."""
    count = len(house.members)
    return [group for group in ascending_tuples(count) if _can_act(house.talks, count, group)]


def _can_act(talks, count, group):
    return not talks or len(group) == count or _is_connected(talks, group)


def _is_connected(talks, group):
    reached = [group[0]]
    # Each round reaches at least one more member, as long as there is one to be reached.
    for _ in group:
        reached = [member for member in group if member in reached or _talks_with(talks, member, reached)]
    return len(reached) == len(group)


def _talks_with(talks, member, others):
    return any([(member, other) in talks or (other, member) in talks for other in others])


def table_of(house):
    """The table of what the groups of the house earn at most."""
    rows = [(group, Ratio(best_plan(house, group)[0])) for group in acting(house)]
    return Table(len(house.members), rows)


def leavers(table):
    """The list of the groups that can act, but not the whole, in ascending order."""
    whole = whole_of(table.count)
    return [row[0] for row in table.rows if row[0] != whole]


def paid(payments, group):
    """What the group is paid."""
    return sum_of([payments[member] for member in group])


def complaint(table, payments, group):
    """The earning of the group less what it is paid."""
    return table.earning(group) - paid(payments, group)


def complaint_levels(table, payments):
    """The list of pairs of a complaint and the groups whose complaint is at least that, the greatest one first."""
    groups = leavers(table)
    nums, den = over_one_den([complaint(table, payments, group) for group in groups])
    levels = []
    for least in reversed(sorted(set(nums))):
        levels.append((Ratio(least, den), [group for group, num in zip(groups, nums) if num >= least]))
    return levels


def gains(table, payments):
    """The list of the groups that gain by leaving, in ascending order."""
    return [group for group in leavers(table) if complaint(table, payments, group).num > 0]


def holds_on(table, payments):
    """True if the payments hold."""
    return complaint(table, payments, whole_of(table.count)).num == 0 and not gains(table, payments)


def best_split(table):
    """A pair of the sum and the groups of the best split."""
    best = None
    groups = [row[0] for row in table.rows]
    for split in _splits(groups, whole_of(table.count)):
        total = sum_of([table.earning(group) for group in split])
        # Splits come in ascending order, so an equally good one does not replace an earlier one.
        if best is None or best[0].less(total) or (best[0] == total and len(split) < len(best[1])):
            best = (total, split)
    return best


def _splits(groups, members):
    """The splits of the members into some of the groups, in ascending order."""
    if not members:
        return [()]
    found = []
    for group in groups:
        if group[0] == members[0] and all([member in members for member in group]):
            left = tuple([member for member in members if member not in group])
            found.extend([(group,) + others for others in _splits(groups, left)])
    return found
