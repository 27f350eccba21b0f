"""Gauges, which are known by their names, and futures, which give each gauge an integer."""

from everyfuture.errors import MissingGauge, SharedGauge


def is_gauge(name):
    """Return True if the string is the name of a gauge, otherwise False."""
    if not 1 <= len(name) <= 8 or not is_letter(name[0]):
        return False
    return all([is_letter(sign) or "0" <= sign <= "9" for sign in name])


def is_letter(sign):
    """Return True if the sign is a small letter, otherwise False."""
    return "a" <= sign <= "z"


def value_of(reading, future):
    """Return the value of an integer or of a gauge in a future."""
    if not isinstance(reading, str):
        return reading
    if reading not in future:
        raise MissingGauge(reading)
    return future[reading]


def part_of(future, gauges):
    """Return the future with these gauges alone, in ascending order."""
    return {gauge: value_of(gauge, future) for gauge in sorted(gauges)}


def check_disjoint(rows):
    """Raise an error for the first gauge of the first row of gauges that has a gauge of an earlier row."""
    earlier = []
    for row in rows:
        for gauge in row:
            if gauge in earlier:
                raise SharedGauge(gauge)
        earlier = earlier + list(row)
