"""Other tables that are made of a table: scaled, renumbered and reduced ones."""

from nogroupleaves.parts import whole_of
from nogroupleaves.table import Table, paid


def scaled(table, factor, amounts):
    """The table in which each group earns the factor times its earning, and the amounts of its members."""
    rows = [(group, factor * earning + paid(amounts, group)) for group, earning in table.rows]
    return Table(table.count, rows)


def renumbered(table, order):
    """The table in which member k is the member with the index that stands at k in the order."""
    return _table_from(table.count, {_places(order, group): earning for group, earning in table.rows})


def reduced(table, payments, group):
    """The table of the group, in which those outside are paid and work for whom they act with."""
    earnings = {}
    for other, earning in table.rows:
        inside = _places(group, other)
        left = earning - paid(payments, [member for member in other if member not in group])
        if inside and (inside not in earnings or earnings[inside].less(left)):
            earnings[inside] = left
    # What the whole group earns is not what it could earn with those outside.
    earnings[whole_of(len(group))] = paid(payments, group)
    return _table_from(len(group), earnings)


def _places(order, group):
    """The ascending tuple of the places in the order at which members of the group stand."""
    return tuple([place for place, member in enumerate(order) if member in group])


def _table_from(count, earnings):
    return Table(count, sorted(earnings.items(), key=lambda row: row[0]))
