"""Claims with one thing changed: pairs of a word for the change, and the claim.

A right claim is wrong after each change whose word is one of SURELY_WRONG; after the others it may be right.
"""

from claims import LAYOUT
from nogroupleaves.ratio import Ratio
from plans import groups_of

BIT = Ratio(1, 10 ** 30)
ZERO = Ratio(0)

SURELY_WRONG = (
    "one too many", "one missing", "weight 0", "weight below 0", "twice", "order", "whole", "cannot act", "no group",
    "level left out", "level twice", "levels exchanged", "complaint of a level", "level added", "group of a level",
)


def numbers_beside(number):
    found = [number + BIT, number - BIT, number + Ratio(1), number - Ratio(1), ZERO - number, ZERO, number + number]
    return [other for other in found if other != number]


def replaced(parts, at, *others):
    return parts[:at] + others + parts[at + 1:]


def changed_claims(table, claim):
    for at, kind in enumerate(LAYOUT[claim[0]], start=1):
        for word, part in CHANGES[kind](table, claim[at]):
            yield word, replaced(claim, at, part)


def changed_number(table, number):
    for other in numbers_beside(number):
        yield "number", other


def changed_member(table, member):
    for other in range(5):
        if other != member:
            yield "member", other


def changed_payments(table, payments):
    for at, pay in enumerate(payments):
        for other in numbers_beside(pay):
            yield "number", replaced(payments, at, other)
        yield "one missing", replaced(payments, at)
        for other in range(len(payments)):
            if other != at:
                moved = replaced(payments, at, pay + Ratio(1, 3))
                yield "moved", replaced(moved, other, payments[other] - Ratio(1, 3))
    for more in ((ZERO,), (payments[0],)):
        yield "one too many", payments + more
        yield "one too many", more + payments
    yield "one missing", ()


def changed_weights(table, weights):
    for at, (group, weight) in enumerate(weights):
        for other in numbers_beside(weight):
            word = "number" if other.num > 0 else "weight below 0" if other.num < 0 else "weight 0"
            yield word, replaced(weights, at, (group, other))
        yield "left out", replaced(weights, at)
        half = (group, weight * Ratio(1, 2))
        yield "twice", replaced(weights, at, half, half)
        yield "twice", replaced(weights, at, (group, weight), (group, weight))
        yield "twice", weights + ((group, BIT),)
        for word, other in other_groups(table, group):
            yield word, replaced(weights, at, (other, weight))
    for at in range(len(weights) - 1):
        yield "order", weights[:at] + (weights[at + 1], weights[at]) + weights[at + 2:]
    if len(weights) > 1:
        yield "order", weights[::-1]
    yield from added_weights(table, weights)


def other_groups(table, group):
    whole = tuple(range(table.count))
    for other in groups_of(table.count):
        if other != group:
            can_act = table.earning(other) is not None
            yield "whole" if other == whole else "another group" if can_act else "cannot act", other
    for other in ((), group + (table.count,), (-1,) + group, group + group, (group[-1],) + group, (7,), (0, 2, 1)):
        yield "no group", other


def added_weights(table, weights):
    known = [group for group, _ in weights]
    whole = tuple(range(table.count))
    for group in groups_of(table.count):
        if group not in known:
            word = "whole" if group == whole else "added" if table.earning(group) is not None else "cannot act"
            yield word, tuple(sorted(weights + ((group, BIT),), key=lambda pair: pair[0]))
            yield "weight 0", tuple(sorted(weights + ((group, ZERO),), key=lambda pair: pair[0]))
    # A part of the whole in the place of a part of each group covers each member as often.
    mixed = [(group, weight * Ratio(1, 2)) for group, weight in weights] + [(whole, Ratio(1, 2))]
    yield "whole", tuple(sorted(mixed, key=lambda pair: pair[0]))
    yield "no group", (((), Ratio(1)),) + weights
    yield "no group", weights + (((7,), Ratio(1)),)
    if weights:
        yield "left out", ()


def changed_levels(table, levels):
    for at, (least, weights) in enumerate(levels):
        yield "level left out", replaced(levels, at)
        yield "level twice", replaced(levels, at, levels[at], levels[at])
        for other in numbers_beside(least):
            yield "complaint of a level", replaced(levels, at, (other, weights))
        for word, other in changed_weights(table, weights):
            word = "group of a level" if word in ("left out", "added", "another group") else word
            yield word, replaced(levels, at, (least, other))
        for other in range(at):
            exchanged = replaced(levels, at, levels[other])
            yield "levels exchanged", replaced(exchanged, other, levels[at])
            yield "group of a level", replaced(levels, at, (least, levels[other][1]))
            yield "group of a level", replaced(levels, other, (levels[other][0], weights))
    for more in ((ZERO, ()), levels[-1] if levels else (ZERO, (((0,), Ratio(1)),))):
        yield "level added", (more,) + levels
        yield "level added", levels + (more,)
    if levels:
        yield "level added", levels + ((levels[-1][0] - Ratio(1), levels[-1][1]),)
        yield "level left out", ()


CHANGES = {
    "amount": changed_number, "rest": changed_number, "member": changed_member, "payments": changed_payments,
    "wishes": changed_payments, "weights": changed_weights, "levels": changed_levels,
}
