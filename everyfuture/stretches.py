"""Stretch lists: sets of integers, written as ascending stretches that do not touch."""


def join_stretches(stretches):
    """Return the stretch list of the integers of some stretches, which may overlap and be in any order."""
    joined = []
    for low, high in sorted(stretches):
        if joined and low <= joined[-1][1] + 1:
            joined[-1] = (joined[-1][0], max(joined[-1][1], high))
        else:
            joined.append((low, high))
    return joined


def common_stretches(first, second):
    """Return the stretch list of the integers that are in both stretch lists."""
    pairs = [(max(low, start), min(high, end)) for low, high in first for start, end in second]
    # What two stretch lists have in common does not touch either, so there is nothing to join.
    return [(low, high) for low, high in pairs if low <= high]


def has_number(stretches, number):
    """Return True if the integer is in the stretch list, otherwise False."""
    return any([low <= number <= high for low, high in stretches])
