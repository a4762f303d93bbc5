"""What several files need to keep the parts of their data."""


def as_tuples(part):
    """The part with each list in it, at any depth, replaced by a tuple."""
    if isinstance(part, (list, tuple)):
        return tuple([as_tuples(item) for item in part])
    return part
