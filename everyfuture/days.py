"""Days: what all departments of a house should decide together.

The open leaves of a house are its unfinished departments, in order, with those of the houses within it, but without
these houses themselves.
"""

from everyfuture.departments import check_decision, check_kind, kind_for
from everyfuture.houses import House, leaves_of
from everyfuture.losses import least_loss, loss, within
from everyfuture.news import check_gauge, check_most, kind_with, settled_ranges


def separate_losses(house, decision, kind):
    """Return the loss of each entry of the decision in its department, None for None."""
    check_decision(house, decision)
    check_kind(house, kind)
    return [None if entry is None else loss(part, entry, kind)[0] for part, entry in zip(house.parts, decision)]


def is_product(house, kind):
    """Return True if the departments have nothing to do with each other in the kind of the house, otherwise False."""
    own = kind_for(house, kind)
    # All futures of the kind are in the product, so they are the same if they are as many.
    many = 1
    for part in house.parts:
        many = many * own.onto(part.gauges).size()
    return own.size() == many


def advice(house, kind):
    """Return for each department the stretch list of its safe decisions, None for a finished one."""
    check_kind(house, kind)
    return day_of(house, [within(leaf, kind) for leaf in open_leaves(house)])


def least_day(house, kind):
    """Return a pair of the sum of the least losses of the departments and the decision that has them."""
    check_kind(house, kind)
    rows = [least_loss(leaf, kind) for leaf in open_leaves(house)]
    return sum([amount for amount, _ in rows]), day_of(house, [stretches[0][0] for _, stretches in rows])


def settling_house(house, kind, gauge, *, most=20):
    """Return the fewest ranges of the values of the gauge in which all departments have safe decisions."""
    check_gauge(kind, gauge)
    check_most(most)
    rows = settled_ranges(open_leaves(house), kind_with(house, kind, gauge), gauge, 0, most)
    return [(low, high, day_of(house, decisions)) for low, high, decisions in rows]


def open_leaves(department):
    """Return the list of the open leaves of a house; of another department itself if it is not finished."""
    return [leaf for leaf in leaves_of(department) if not leaf.is_finished()]


def day_of(house, values):
    """Return the list with an entry for each department, nested for houses, from the values for the open leaves."""
    day = []
    at = 0
    for part in house.parts:
        own = values[at:at + len(open_leaves(part))]
        at = at + len(own)
        if part.is_finished():
            day.append(None)
        elif isinstance(part, House):
            day.append(day_of(part, own))
        else:
            day.append(own[0])
    return day
