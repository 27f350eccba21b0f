"""Ratios of worth to hours, and the sections into which they divide steps."""

from math import gcd


def make_ratio(numerator, denominator):
    """Return the ratio of two integers in lowest terms."""
    shared = gcd(numerator, denominator)
    return numerator // shared, denominator // shared


def is_less(first, second):
    """Return True if the first ratio is less than the second one, otherwise False."""
    return first[0] * second[1] < second[0] * first[1]


def ratio_span(ratios):
    """Return a pair of the least one and the greatest one of one or more ratios."""
    least = greatest = ratios[0]
    for ratio in ratios[1:]:
        if is_less(ratio, least):
            least = ratio
        if is_less(greatest, ratio):
            greatest = ratio
    return least, greatest


def first_section(steps):
    """Return a tuple of the number of steps in the first section, their worth and their hours."""
    # No ratio is less than 0, so the first step is taken in any case.
    many, best = 0, (0, 1)
    worth = hours = 0
    for at, (step_hours, step_worth) in enumerate(steps):
        worth = worth + step_worth
        hours = hours + step_hours
        # Of several beginnings with the greatest ratio the longest one is taken.
        if not is_less((worth, hours), best):
            many, best = at + 1, (worth, hours)
    return many, best[0], best[1]


def sections(steps):
    """Return the sections of the steps as tuples (start, end, worth, hours)."""
    found = []
    start = 0
    while start < len(steps):
        many, worth, hours = first_section(steps[start:])
        found.append((start, start + many, worth, hours))
        start = start + many
    return found
