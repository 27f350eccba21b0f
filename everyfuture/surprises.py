"""Surprises: the losses of a decision if at most so many of some pairs of kinds (calm, wild) are wild."""

from everyfuture.departments import check_amount, check_decision, check_kind
from everyfuture.errors import SplitPair
from everyfuture.few import check_pairs, few_kinds
from everyfuture.kinds import Kind, both
from everyfuture.losses import loss
from everyfuture.profiles import sum_merge


def surprise_losses(department, decision, pairs):
    """Return the losses of the decision if at most 0, 1, .., and up to all of the pairs are wild."""
    check_decision(department, decision)
    check_pairs(pairs)
    check_kind(department, widest(pairs))
    kinds = few_kinds(0, len(pairs), pairs)
    return [loss(department, decision, kinds[k])[0] for k in range(len(pairs) + 1)]


def merged_losses(house, decision, pairs):
    """Return the same list for a house, each pair of which belongs to a department, from a list for each of these."""
    check_decision(house, decision)
    check_pairs(pairs)
    owners = owners_of(house, pairs)
    check_kind(house, widest(pairs))
    merged = [0]
    for at, (part, entry) in enumerate(zip(house.parts, decision)):
        own = [pair for pair, owner in zip(pairs, owners) if owner == at]
        merged = sum_merge(merged, [0] * (len(own) + 1) if entry is None else surprise_losses(part, entry, own))
    return merged


def most_surprises(department, decision, pairs, *, limit=0):
    """Return how many of the pairs may be wild with a loss of at most the limit; None if even 0 are too many."""
    check_decision(department, decision)
    check_amount(limit)
    amounts = surprise_losses(department, decision, pairs)
    return max([k for k, amount in enumerate(amounts) if amount <= limit], default=None)


def owners_of(house, pairs):
    """Return for each pair the index of the first department that has all its gauges, or raise an error."""
    owners = []
    for index, (calm, _) in enumerate(pairs):
        fitting = [at for at, part in enumerate(house.parts) if all([gauge in part.gauges for gauge in calm.gauges])]
        if not fitting:
            raise SplitPair(index)
        owners.append(fitting[0])
    return owners


def widest(pairs):
    """Return the kind of a single box in which each gauge has all values from its least to its greatest one."""
    return both([hull_of(calm | wild) for calm, wild in pairs])


def hull_of(kind):
    """Return the kind of the smallest box that contains all futures of the kind."""
    return Kind(kind.gauges, [[kind.span(gauge) for gauge in kind.gauges]])
