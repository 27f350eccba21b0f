"""Keeping promises: whether limits for waits hold in a future, and in all futures of a kind."""

from everyfuture.departments import check_amount, check_open, kind_for
from everyfuture.ends import ends
from everyfuture.errors import InvalidPlan, NotKept
from everyfuture.waits import tightest


def shortfall(promises, limits, future):
    """Return a pair of the shortfall of the limits of the first classes and the short group."""
    check_limits(promises, limits)
    return tightest(promises.rows(future), limits, [])


def breach(promises, limits, kind):
    """Return a pair of a future of the kind in which the limits do not hold and the short group; None if they hold."""
    check_limits(promises, limits)
    for future in fullest(promises, kind):
        missing, group = tightest(promises.rows(future), limits, [])
        if missing > 0:
            return future, group
    return None


def least_limit(promises, kind):
    """Return the least limit of the open class that holds together with the placed ones.

    The second and the third entry of the tuple are a future and a group for which a smaller limit is too small.
    """
    check_open(promises)
    found = breach(promises, promises.placed, kind)
    if found is not None:
        raise NotKept(found[0], found[1])
    own = len(promises.placed)
    futures = fullest(promises, kind)
    rows = [tightest(promises.rows(future), promises.placed, [own]) for future in futures]
    limits = [limit for limit, _ in rows]
    at = limits.index(max(limits))
    return limits[at], futures[at], rows[at][1] + [own]


def check_limits(promises, limits):
    """Raise an error if there are more limits than classes, then for the first limit that is less than 0."""
    if len(limits) > len(promises.rates):
        raise InvalidPlan(len(promises.rates))
    for limit in limits:
        check_amount(limit)


def fullest(promises, kind):
    """Return the futures of the kind of the promises in which the most jobs arrive: no other one has more."""
    own = kind_for(promises, kind)
    return ends(own, {gauge: 1 for gauge in own.gauges})
