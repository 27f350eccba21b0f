"""Kinds of futures in which only a few things are wild."""

from everyfuture.errors import InvalidAmount
from everyfuture.futures import check_disjoint
from everyfuture.kinds import Kind, check_same_gauges


def few(most, pairs):
    """Return the kind of the futures in which at most so many of the pairs (calm, wild) are wild."""
    if most < 0:
        raise InvalidAmount(most)
    check_pairs(pairs)
    number = min(most, len(pairs))
    return few_kinds(number, number, pairs)[number]


def few_kinds(first, last, pairs):
    """Return a dict with the numbers from `first` to `last` and the kinds in which at most so many pairs are wild.

    The pairs have been checked, and no number is greater than that of the pairs.
    """
    # For some numbers: the futures in which at most so many of the pairs that were looked at are wild.
    kinds = {0: Kind([], [[]])}
    for done, (calm, wild) in enumerate(pairs):
        # With a smaller number than `least` the pairs that follow could not use up what is left of `first`.
        least = max(0, first - (len(pairs) - done - 1))
        kinds = {number: with_pair(kinds, number, done, calm, wild)
                 for number in range(least, min(last, done + 1) + 1)}
    return kinds


def with_pair(kinds, number, done, calm, wild):
    """Return the kind in which at most so many pairs are wild, from the kinds of the pairs before (calm, wild)."""
    peaceful = calm * kinds[min(number, done)]
    if number == 0:
        return peaceful
    return peaceful | wild * kinds[number - 1]


def check_pairs(pairs):
    """Raise an error for the first pair with different gauges, then for the first one that shares a gauge."""
    for calm, wild in pairs:
        check_same_gauges(calm, wild)
    check_disjoint([calm.gauges for calm, _ in pairs])
