"""The weights with the greatest worth, and the prices that show that none have a greater one.

All steps are exact, and done with whole numbers: the lines of the tableau hold numerators over
one denominator, the last pivot, by which each step can be divided without a rest.
"""

from nogroupleaves.ratio import Ratio, over_one_den


def best_weights(columns, rights, worths):
    """A pair of lists: a weight for each column, and a price for each place of the columns.

    No weight is below 0. The columns, each times its weight, add up to the rights, none of which
    is below 0; and the sum of the weights, each times its worth, is the greatest possible one.
    Callers pass columns that can be added up to the rights, and worths with which there is a
    greatest sum.

    The entries of each column, each times the price of its place, add up to at least its worth,
    and the rights, each times its price, to the greatest sum. The prices are such only if
    the columns can also be added up to all rights that are near to the given ones.
    """
    nums, den = over_one_den(worths)
    lines = _first_lines(columns, rights, nums)
    # Behind the columns, each place has a column of its own, which stands in for what is missing.
    basis = [len(columns) + at for at in range(len(rights))]
    shared = 1
    entering = _entering(lines, len(columns))
    while entering is not None:
        leaving = _leaving(lines, basis, entering)
        pivot = lines[leaving][entering]
        lines = _stepped(lines, leaving, entering, shared)
        shared = pivot
        basis[leaving] = entering
        entering = _entering(lines, len(columns))
    weights = [Ratio(0)] * len(columns)
    for line, at in zip(lines, basis):
        if at < len(columns):
            weights[at] = Ratio(line[-1], shared)
    prices = [Ratio(-num, shared * den) for num in lines[-1][len(columns):-1]]
    return weights, prices


def _first_lines(columns, rights, nums):
    """A line for each place, and two more: what a column adds of what is missing, and to the worth."""
    none = [0] * len(rights)
    lines = []
    for at, right in enumerate(rights):
        stand_ins = list(none)
        stand_ins[at] = 1
        lines.append([column[at] for column in columns] + stand_ins + [right])
    lines.append([sum(column) for column in columns] + none + [sum(rights)])
    lines.append(nums + none + [0])
    return lines


def _entering(lines, count):
    """The first column that adds of what is missing, or takes nothing of it and adds to the worth.

    Taking the first one, here and among those that could leave, never comes back to a basis
    that was left, so the search ends (Bland's rule). What stands in does not enter again.
    """
    missing, worth = lines[-2], lines[-1]
    for at in range(count):
        if missing[at] > 0 or (missing[at] == 0 and worth[at] > 0):
            return at
    return None


def _leaving(lines, basis, entering):
    """The line whose weight is the first one to be used up; of several, that of the first column."""
    best = None
    for at, line in enumerate(lines[:len(basis)]):
        if line[entering] > 0:
            if best is None:
                best = at
            else:
                ahead = line[-1] * lines[best][entering] - lines[best][-1] * line[entering]
                if ahead < 0 or (ahead == 0 and basis[at] < basis[best]):
                    best = at
    return best


def _stepped(lines, leaving, entering, shared):
    chosen = lines[leaving]
    pivot = chosen[entering]
    stepped = []
    for at, line in enumerate(lines):
        if at == leaving:
            stepped.append(chosen)
        else:
            factor = line[entering]
            stepped.append([(num * pivot - other * factor) // shared for num, other in zip(line, chosen)])
    return stepped


def rank(vectors):
    """How many of the vectors, at most, are such that none is made of the others."""
    found = 0
    left = list(vectors)
    while left:
        first = left[0]
        at = _first_place(first)
        left = left[1:]
        if at is not None:
            found += 1
            left = [[first[at] * num - line[at] * other for num, other in zip(line, first)] for line in left]
    return found


def _first_place(vector):
    for at, num in enumerate(vector):
        if num != 0:
            return at
    return None
