"""Kinds of futures in which only a few things are wild."""

from everyfuture.errors import InvalidAmount
from everyfuture.kinds import Kind, check_same_gauges


def few(most, pairs):
    """Return the kind of the futures in which at most so many of the pairs (calm, wild) are wild."""
    check_pairs(most, pairs)
    most = min(most, len(pairs))
    # For some numbers: the futures in which at most so many of the pairs that were looked at are wild.
    kinds = {0: Kind([], [[]])}
    for done, (calm, wild) in enumerate(pairs):
        # With a smaller number than `least` the pairs that follow could not use up what is left of `most`.
        least = max(0, most - (len(pairs) - done - 1))
        kinds = {number: with_pair(kinds, number, done, calm, wild)
                 for number in range(least, min(most, done + 1) + 1)}
    return kinds[most]


def with_pair(kinds, number, done, calm, wild):
    """Return the kind in which at most so many pairs are wild, from the kinds of the pairs before (calm, wild)."""
    # This product also finds out whether the pair shares a gauge with one of the pairs before it.
    peaceful = calm * kinds[min(number, done)]
    if number == 0:
        return peaceful
    return peaceful | wild * kinds[number - 1]


def check_pairs(most, pairs):
    """Raise an error for too small a number of wild pairs, and for the first pair with different gauges."""
    if most < 0:
        raise InvalidAmount(most)
    for calm, wild in pairs:
        check_same_gauges(calm, wild)
