"""Losses: the greatest regrets of decisions over all futures of a kind."""

from everyfuture.departments import check_amount, check_decision, check_open, kind_for
from everyfuture.ends import ends
from everyfuture.houses import House
from everyfuture.orders import Orders
from everyfuture.promises import Promises
from everyfuture.stretches import common_stretches, join_stretches


def loss(department, decision, kind):
    """Return a pair of the loss of the decision and a future of the kind in which it has this regret."""
    check_decision(department, decision)
    return loss_on(department, decision, kind_for(department, kind))


def is_safe(department, decision, kind):
    """Return True if the decision is best in every future of the kind, otherwise False."""
    greatest, _ = loss(department, decision, kind)
    return greatest == 0


def within(department, kind, *, limit=0):
    """Return the stretch list of the decisions whose loss is at most the limit."""
    own = open_kind(department, kind, limit)
    if is_row(department):
        return common_level(row_curves(department, row_ends(department, own)), limit)
    return as_stretches([decision for decision, amount, _ in choice_losses(department, own) if amount <= limit])


def least_loss(department, kind):
    """Return a pair of the least loss of a decision and the stretch list of the decisions that have it."""
    own = open_kind(department, kind, 0)
    if is_row(department):
        curves = row_curves(department, row_ends(department, own))
        least = least_worst(curves)
        return least, common_level(curves, least)
    rows = choice_losses(department, own)
    least = min([amount for _, amount, _ in rows])
    return least, as_stretches([decision for decision, amount, _ in rows if amount == least])


def parting(department, kind, *, limit=0):
    """Return futures of the kind in which no decision is always good enough; None if there is one that is."""
    own = open_kind(department, kind, limit)
    if is_row(department):
        return row_parting(department, row_ends(department, own), limit)
    return choice_parting(department, own, limit)


def open_kind(department, kind, limit):
    """Return the kind of the department, which must not be finished; the limit must be at least 0."""
    check_open(department)
    check_amount(limit)
    return kind_for(department, kind)


def is_row(department):
    """Return True if the decisions of the department are amounts instead of choices, otherwise False."""
    return isinstance(department, Orders) or isinstance(department, Promises)


def as_stretches(decisions):
    """Return the stretch list of the decisions."""
    return join_stretches([(decision, decision) for decision in decisions])


def in_future_order(futures, gauges):
    """Return the futures with these gauges in their order, without duplicates."""
    rows = sorted({tuple([future[gauge] for gauge in gauges]) for future in futures})
    return [dict(zip(gauges, row)) for row in rows]


def joint_ends(kind, directions):
    """Return the ends of the kind in all these directions, in the order of futures."""
    return in_future_order([future for signs in directions for future in ends(kind, signs)], kind.gauges)


def regrets_in(department, decision, futures):
    """Return the regrets of the decision, or of None for no decision, in the futures."""
    if decision is None:
        return [0] * len(futures)
    if isinstance(department, House):
        rows = [regrets_in(part, entry, futures) for part, entry in zip(department.parts, decision)]
        return [sum(row) for row in zip(*rows)]
    # Many futures of a house are alike for one of its departments, so each regret is worked out only once.
    found = {}
    for future in futures:
        values = values_for(department, future)
        if values not in found:
            found[values] = department.regret(decision, future)
    return [found[values_for(department, future)] for future in futures]


def values_for(department, future):
    """Return the values of the gauges of the department in the future, as a tuple."""
    return tuple([future[gauge] for gauge in department.gauges])


def loss_on(department, decision, kind):
    """Return the loss of the decision and the first end at which it occurs; the kind is that of the department."""
    futures = joint_ends(kind, department.directions(decision))
    regrets = regrets_in(department, decision, futures)
    greatest = max(regrets)
    return greatest, futures[regrets.index(greatest)]


def choice_losses(department, kind):
    """Return tuples of a decision, its loss and the future that `loss_on` tells, for all decisions."""
    rows = []
    for decision in department.choices():
        amount, future = loss_on(department, decision, kind)
        rows.append((decision, amount, future))
    return rows


def row_ends(department, kind):
    """Return the ends of the kind in the directions of a row department, which are the same for all decisions."""
    return joint_ends(kind, department.directions(0))


def row_curves(department, futures):
    """Return the curves of the costs in the futures."""
    return [department.curve(future) for future in futures]


def common_level(curves, limit):
    """Return the stretch list of the amounts that cost in no curve more than the limit above its least value."""
    levels = [curve.level(limit)[0] for curve in curves]
    low, high = max([start for start, _ in levels]), min([end for _, end in levels])
    return [(low, high)] if low <= high else []


def worst_at(rows, x):
    """Return how far one of the curves is at most above its least value at x; rows are pairs of the two."""
    return max([curve(x) - least for curve, least in rows])


def least_worst(curves):
    """Return the least number such that some amount costs in no curve more than this above its least value."""
    bottoms = [curve.lowest() for curve in curves]
    rows = [(curve, least) for curve, (least, _, _) in zip(curves, bottoms)]
    low, high = min([x for _, x, _ in bottoms]), max([x for _, x, _ in bottoms])
    # The greatest of convex functions is convex: it falls up to where it is least.
    while low < high:
        middle = (low + high) // 2
        if worst_at(rows, middle) <= worst_at(rows, middle + 1):
            high = middle
        else:
            low = middle + 1
    return worst_at(rows, low)


def row_parting(department, futures, limit):
    """Return the two futures that part, or None; the futures are the ends for a row department."""
    levels = [curve.level(limit)[0] for curve in row_curves(department, futures)]
    lows, highs = [start for start, _ in levels], [end for _, end in levels]
    if max(lows) <= min(highs):
        return None
    places = sorted([lows.index(max(lows)), highs.index(min(highs))])
    return [futures[at] for at in places]


def choice_parting(department, kind, limit):
    """Return futures that part and of which none can be left out, or None; for a choice department."""
    rows = choice_losses(department, kind)
    if min([amount for _, amount, _ in rows]) <= limit:
        return None
    kept = in_future_order([future for _, _, future in rows], kind.gauges)
    for future in list(kept):
        rest = [other for other in kept if other != future]
        if are_parted(department, rest, limit):
            kept = rest
    return kept


def are_parted(department, futures, limit):
    """Return True if each decision has a regret of more than the limit in one of the futures, otherwise False."""
    good = as_stretches(department.choices())
    for future in futures:
        good = common_stretches(good, department.level(future, limit))
    return not good
