"""News: what it takes to know about the value of one gauge before a decision is good enough.

The values of the gauge in the kind are known by their places here, from 0 for the smallest one on.
"""

from everyfuture.departments import check_amount, check_decision, check_kind, check_open
from everyfuture.errors import InvalidAmount, MissingGauge, NotSettled
from everyfuture.losses import least_loss, loss, within
from everyfuture.stretches import common_stretches


def settling(department, kind, gauge, *, limit=0, most=20):
    """Return the fewest ranges of the values of the gauge that leave a good decision, as tuples with the least one."""
    check_open(department)
    check_gauge(kind, gauge)
    check_amount(limit)
    check_most(most)
    rows = settled_ranges([department], kind_with(department, kind, gauge), gauge, limit, most)
    return [(low, high, decisions[0]) for low, high, decisions in rows]


def best_question(department, kind, gauge):
    """Return the least value to ask for and the remaining loss, which is as small as possible; None for one value."""
    check_open(department)
    check_gauge(kind, gauge)
    own = kind_with(department, kind, gauge)
    values = own.values_of(gauge)
    if how_many(values) == 1:
        return None
    # From the crossing on, the greater least loss is that of the futures below the value, before it that of the others.
    # Where one side has no question, its number is the least loss on all futures, which is never the smaller one.
    at = crossing(department, own, gauge)
    below = least_loss(department, up_to(own, gauge, at - 1))[0]
    above = least_loss(department, from_on(own, gauge, at - 1))[0]
    if below < above:
        return number_at(values, at), below
    return number_at(values, first_within(department, own, gauge, at - 1, above)), above


def safe_from(department, decision, kind, gauge, *, limit=0):
    """Return the least value of the gauge from which on the decision is good enough; None if there is none."""
    check_news(department, decision, kind, gauge, limit)
    own = kind_with(department, kind, gauge)
    values = own.values_of(gauge)
    many = how_many(values)
    bad, good = -1, many
    while bad + 1 < good:
        middle = (bad + good) // 2
        # The futures with greater values are known to be good enough, so only the others are looked at.
        if loss(department, decision, piece(own, gauge, middle, good - 1))[0] <= limit:
            good = middle
        else:
            bad = middle
    return None if good == many else number_at(values, good)


def safe_up_to(department, decision, kind, gauge, *, limit=0):
    """Return the greatest value of the gauge up to which the decision is good enough; None if there is none."""
    check_news(department, decision, kind, gauge, limit)
    own = kind_with(department, kind, gauge)
    values = own.values_of(gauge)
    good, bad = -1, how_many(values)
    while good + 1 < bad:
        middle = (good + bad) // 2
        if loss(department, decision, piece(own, gauge, good + 1, middle))[0] <= limit:
            good = middle
        else:
            bad = middle
    return None if good < 0 else number_at(values, good)


def check_gauge(kind, gauge):
    """Raise an error if the kind does not have the gauge."""
    if gauge not in kind.gauges:
        raise MissingGauge(gauge)


def check_most(most):
    """Raise an error if not even one range is wanted."""
    if most < 1:
        raise InvalidAmount(most)


def check_news(department, decision, kind, gauge, limit):
    """Raise an error if there is no such open decision, no such gauge, or too small a limit."""
    check_decision(department, decision)
    check_gauge(kind, gauge)
    check_amount(limit)


def kind_with(department, kind, gauge):
    """Return the projection of the kind onto the gauges of the department and this gauge, which it need not read."""
    check_kind(department, kind)
    return kind.onto([name for name in kind.gauges if name == gauge or name in department.gauges])


def how_many(stretches):
    """Return how many integers are in the stretch list."""
    return sum([high - low + 1 for low, high in stretches])


def number_at(stretches, place):
    """Return the integer of the stretch list before which there are so many others."""
    for low, high in stretches:
        if place <= high - low:
            return low + place
        place = place - (high - low + 1)
    return None


def piece(kind, gauge, first, last):
    """Return the kind cut to the values of the gauge from one place to another one."""
    values = kind.values_of(gauge)
    return kind.cut(gauge, low=number_at(values, first), high=number_at(values, last))


def up_to(kind, gauge, last):
    """Return the kind cut to the values of the gauge up to this place."""
    return piece(kind, gauge, 0, last)


def from_on(kind, gauge, first):
    """Return the kind cut to the values of the gauge from this place on."""
    return kind.cut(gauge, low=number_at(kind.values_of(gauge), first))


def settled_ranges(departments, kind, gauge, limit, most):
    """Return tuples (low, high, decisions) for the longest ranges in which each of the departments has a good decision.

    The decisions are the least good ones, in the order of the departments.
    """
    values = kind.values_of(gauge)
    rows = []
    first = 0
    while first < how_many(values) and len(rows) < most:
        last, levels = longest_range(departments, kind, gauge, limit, first)
        rows.append((number_at(values, first), number_at(values, last), [level[0][0] for level in levels]))
        first = last + 1
    return rows


def longest_range(departments, kind, gauge, limit, first):
    """Return a pair of the place with which the longest settled range ends, and the good decisions in this range."""
    values = kind.values_of(gauge)
    levels = good_levels(departments, piece(kind, gauge, first, first), limit)
    if not all(levels):
        raise NotSettled(number_at(values, first))
    last, beyond = first, how_many(values)
    middle = beyond - 1
    while last + 1 < beyond:
        # What is good on two kinds is good on both together, so only the values that are added are looked at.
        added = good_levels(departments, piece(kind, gauge, last + 1, middle), limit)
        joint = [common_stretches(one, two) for one, two in zip(levels, added)]
        if all(joint):
            last, levels = middle, joint
        else:
            beyond = middle
        middle = (last + beyond) // 2
    return last, levels


def good_levels(departments, kind, limit):
    """Return for each of the departments the stretch list of the decisions whose loss is at most the limit."""
    return [within(department, kind, limit=limit) for department in departments]


def crossing(department, kind, gauge):
    """Return the first place, from 1 on, below which the least loss is not less than from there on.

    It is the number of the values if there is no such place.
    """
    values = kind.values_of(gauge)
    low, high = 1, how_many(values)
    while low < high:
        middle = (low + high) // 2
        below = least_loss(department, up_to(kind, gauge, middle - 1))[0]
        if within(department, from_on(kind, gauge, middle), limit=below):
            high = middle
        else:
            low = middle + 1
    return low


def first_within(department, kind, gauge, last, limit):
    """Return the first place, from 1 up to the last one, from which on some decision is good enough."""
    low, high = 1, last
    while low < high:
        middle = (low + high) // 2
        if within(department, from_on(kind, gauge, middle), limit=limit):
            high = middle
        else:
            low = middle + 1
    return low
