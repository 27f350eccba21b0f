"""Profiles: lists of integers that never fall; entry k tells what at most k risen gauges can lead to."""


def sum_merge(first, second):
    """Return the profile whose entry k is the greatest sum of two entries whose indexes add up to k."""
    many = len(first) + len(second) - 1
    return [max([one + two for one, two in shared_out(first, second, k)]) for k in range(many)]


def least_merge(first, second):
    """Return the profile whose entry k is the greatest minimum of two entries whose indexes add up to k."""
    many = len(first) + len(second) - 1
    return [max([min(one, two) for one, two in shared_out(first, second, k)]) for k in range(many)]


def shared_out(first, second, k):
    """Return the pairs of an entry of the first list and one of the second list whose indexes add up to k."""
    least = max(0, k - len(second) + 1)
    greatest = min(k, len(first) - 1)
    return [(first[at], second[k - at]) for at in range(least, greatest + 1)]
