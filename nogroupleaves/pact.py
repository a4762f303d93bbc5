"""Pacts: payments that are kept as long as they hold."""

from nogroupleaves.errors import BadTable
from nogroupleaves.pay import fairest, nearest, stay
from nogroupleaves.table import Table, holds_on


class Pact:
    """A table and payments that hold on it, or None; and the words that were told about them."""

    def __init__(self, table):
        self.table = table
        self.payments = fairest(table)[1] if _has_payments(table) else None
        self._told = []

    def tell(self, group, earning):
        """Takes the news that the group earns something else; the word for what happens then."""
        if self.table.earning(group) is None:
            raise BadTable("group")
        table = _with_earning(self.table, group, earning)
        word, payments = _outcome(table, self.payments)
        self.table = table
        self.payments = payments
        self._told.append(word)
        return word

    def words(self):
        """The list of all words that were returned, in order."""
        return list(self._told)


def _has_payments(table):
    return stay(table)[0] == "stay"


def _with_earning(table, group, earning):
    return Table(table.count, [(row[0], earning if row[0] == group else row[1]) for row in table.rows])


def _outcome(table, payments):
    """The word, and the payments of the pact on the new table, where it had the given ones or None."""
    if payments is not None and holds_on(table, payments):
        return "kept", payments
    if not _has_payments(table):
        return "broken", None
    if payments is None:
        return "made", fairest(table)[1]
    return "moved", nearest(table, payments)[3]
