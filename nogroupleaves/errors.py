"""The errors that the program raises."""

from nogroupleaves.parts import as_tuples


class GroupError(ValueError):
    """The base class of all errors that the program raises."""


class BadText(GroupError):
    """A text writes no house; `at` is the index of the word at which that is sure."""

    def __init__(self, at):
        super().__init__(f"the text writes no house, seen at word {at}")
        self.at = at


class BadPaper(GroupError):
    """Lines write no table or no claim; `at` is the index of the line at which that is sure."""

    def __init__(self, at):
        super().__init__(f"the lines cannot be read, seen at line {at}")
        self.at = at


class BadTable(GroupError):
    """A table cannot be made or changed so; `what` is the word that says what is wrong."""

    def __init__(self, what):
        super().__init__(f"not possible for a table: {what}")
        self.what = what


class NoPayments(GroupError):
    """There are no payments that hold; `weights` are those of a claim that shows it."""

    def __init__(self, weights):
        super().__init__("there are no payments that hold")
        self.weights = as_tuples(weights)


class BadRatio(GroupError):
    """A denominator that is not positive, or a division by 0."""
