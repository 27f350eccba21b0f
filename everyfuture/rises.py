"""Rises: what plans cost if the prices of a few gauges rise."""

from everyfuture.departments import check_amount, check_future
from everyfuture.futures import part_of, value_of
from everyfuture.plans import completed_term
from everyfuture.profiles import least_merge, sum_merge
from everyfuture.terms import gauges_of, is_choice, is_price, least_cost


def raised_cost(plans, calm, rises, threshold):
    """Return the least cost if each price rises by what its rise has above the threshold."""
    check_prices(plans, calm, rises)
    check_amount(threshold)
    return plans.least(raised_future(plans, calm, rises, threshold))


def worst_cost(plans, decisions, calm, rises, k):
    """Return the greatest cost of the completion if at most k gauges rise."""
    term = completed_term(plans, decisions)
    check_prices(plans, calm, rises)
    check_amount(k)
    greatest = sorted([rises[gauge] for gauge in gauges_of(term)], reverse=True)[:k]
    return least_cost(term, calm) + sum(greatest)


def later_costs(plans, calm, rises):
    """Return the list of the later costs for k = 0, 1, .., up to the number of gauges."""
    check_prices(plans, calm, rises)
    return later_profile(plans.chosen(), calm, rises)


def now_costs(plans, calm, rises):
    """Return the list of the now costs for k = 0, 1, .., up to the number of gauges."""
    check_prices(plans, calm, rises)
    rows = raised_costs(plans, calm, rises)
    return [min([k * threshold + cost for threshold, cost in rows]) for k in range(len(plans.gauges) + 1)]


def later_rises(plans, calm, rises, k):
    """Return an ascending list of at most k gauges that lead to the later cost for k if they rise."""
    check_prices(plans, calm, rises)
    check_amount(k)
    prices, possible = part_of(calm, plans.gauges), part_of(rises, plans.gauges)
    cost = later_cost(plans, prices, possible, k)
    chosen = []
    for gauge in plans.gauges:
        # Either the cost can still be reached if this gauge rises, or it can be reached without its rise.
        risen = with_value(prices, gauge, prices[gauge] + possible[gauge])
        possible = with_value(possible, gauge, 0)
        if len(chosen) < k and later_cost(plans, risen, possible, k - len(chosen) - 1) == cost:
            chosen.append(gauge)
            prices = risen
    return chosen


def now_choice(plans, calm, rises, k):
    """Return a completion whose worst cost for k is the now cost for k."""
    check_prices(plans, calm, rises)
    check_amount(k)
    _, best = min([(k * threshold + cost, threshold) for threshold, cost in raised_costs(plans, calm, rises)])
    # No cost of a completion for k is greater than k times any threshold plus its raised cost for that threshold.
    return plans.finish(raised_future(plans, calm, rises, best))


def check_prices(plans, calm, rises):
    """Raise an error for the first gauge that a dict lacks or gives a number less than 0, first for the prices."""
    check_future(plans, calm)
    check_future(plans, rises)


def raised_future(plans, calm, rises, threshold):
    """Return the future in which each price has risen by what its rise has above the threshold."""
    return {gauge: calm[gauge] + max(0, rises[gauge] - threshold) for gauge in plans.gauges}


def raised_costs(plans, calm, rises):
    """Return pairs of a threshold and the raised cost for it: for 0 and for each rise."""
    thresholds = sorted({rises[gauge] for gauge in plans.gauges})
    return [(threshold, plans.least(raised_future(plans, calm, rises, threshold))) for threshold in [0] + thresholds]


def later_profile(term, calm, rises):
    """Return the list of the later costs of a term for k = 0, 1, .., up to the number of its gauges."""
    if is_price(term):
        price = value_of(term, calm)
        return [price, price + rises[term]] if isinstance(term, str) else [price]
    profiles = [later_profile(part, calm, rises) for part in term[1]]
    if is_choice(term):
        merged = profiles[0]
        for profile in profiles[1:]:
            merged = least_merge(merged, profile)
        return merged
    merged = [0]
    for profile in profiles:
        merged = sum_merge(merged, profile)
    return merged


def later_cost(plans, calm, rises, k):
    """Return the later cost for k, which may be greater than the number of gauges."""
    return later_profile(plans.chosen(), calm, rises)[min(k, len(plans.gauges))]


def with_value(future, gauge, value):
    """Return the future with another value of one gauge."""
    return {name: value if name == gauge else future[name] for name in future}
