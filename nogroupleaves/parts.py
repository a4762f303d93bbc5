"""What several files need of data and of groups."""


def as_tuples(part):
    """The part with each list in it, at any depth, replaced by a tuple."""
    if isinstance(part, (list, tuple)):
        return tuple([as_tuples(item) for item in part])
    return part


def whole_of(count):
    """The group of all members, of whom there are that many."""
    return tuple(range(count))


def is_group(count, group):
    """True if the tuple is a group of some of that many members."""
    return len(group) > 0 and is_ascending(group) and group[0] >= 0 and group[-1] < count


def is_ascending(parts):
    """True if each of the parts is less than the one behind it."""
    return all([parts[at] < parts[at + 1] for at in range(len(parts) - 1)])


def ascending_tuples(count):
    """All ascending tuples of indexes below the count, none empty, in ascending order."""
    found = []
    for index in reversed(range(count)):
        found = [(index,)] + [(index,) + behind for behind in found] + found
    return found
