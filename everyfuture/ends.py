"""Directions, and the ends of kinds in them."""

from everyfuture.errors import InvalidNumber, InvalidSign, MissingGauge


def opposite(signs):
    """Return the direction with the opposite signs."""
    gauges = sorted(signs)
    check_signs(signs, gauges)
    return {gauge: -signs[gauge] for gauge in gauges}


def is_as_far(first, second, signs):
    """Return True if the first future is at least as far as the second one in the direction, otherwise False."""
    gauges = sorted(signs)
    check_signs(signs, gauges)
    for gauge in gauges:
        if gauge not in first or gauge not in second:
            raise MissingGauge(gauge)
    return all([signs[gauge] * first[gauge] >= signs[gauge] * second[gauge] for gauge in gauges])


def corner(kind, index, signs):
    """Return the future of the cell with this index that is farthest in the direction."""
    if index < 0 or len(kind.cells) <= index:
        raise InvalidNumber(len(kind.cells))
    check_direction(kind, signs)
    return dict(zip(kind.gauges, corner_values(kind.cells[index], signs_of(kind, signs))))


def ends(kind, signs):
    """Return the ends of the kind in the direction, in the order of futures."""
    check_direction(kind, signs)
    row = signs_of(kind, signs)
    corners = [corner_values(cell, row) for cell in kind.cells]
    # In this order a corner comes before those that it is as far as, so only those that were kept are asked.
    reaches = sorted([[sign * value for sign, value in zip(row, values)] for values in corners], reverse=True)
    kept = []
    for reach in reaches:
        if not is_reached(reach, kept):
            kept.append(reach)
    farthest = sorted([[sign * number for sign, number in zip(row, reach)] for reach in kept])
    return [dict(zip(kind.gauges, values)) for values in farthest]


def check_signs(signs, gauges):
    """Raise an error for the first one of the gauges whose sign is neither 1 nor -1."""
    for gauge in gauges:
        if signs[gauge] not in (1, -1):
            raise InvalidSign(gauge)


def check_direction(kind, signs):
    """Raise an error for the first gauge of the kind without a sign, then for the first one with a wrong sign."""
    for gauge in kind.gauges:
        if gauge not in signs:
            raise MissingGauge(gauge)
    check_signs(signs, kind.gauges)


def signs_of(kind, signs):
    """Return the signs of the gauges of the kind, in the order of the gauges."""
    return [signs[gauge] for gauge in kind.gauges]


def corner_values(cell, row):
    """Return the values of the future of the cell that is farthest with these signs of its gauges."""
    return [high if sign == 1 else low for (low, high), sign in zip(cell, row)]


def is_reached(numbers, reaches):
    """Return True if, at each place, one of the lists has at least the numbers of this one, otherwise False."""
    for reach in reaches:
        if all_at_least(reach, numbers):
            return True
    return False


def all_at_least(numbers, others):
    """Return True if none of the numbers is less than the other one at its place, otherwise False."""
    for number, other in zip(numbers, others):
        if number < other:
            return False
    return True
