"""Promises: a department that promises limits for the waits of the classes of one server."""

from everyfuture.curves import Curve
from everyfuture.departments import check_decision, check_entries, check_future, check_open, check_row
from everyfuture.departments import check_whole_row, is_amount, is_list, is_reading, is_whole, read_gauges
from everyfuture.ends import opposite
from everyfuture.errors import InvalidAmount, InvalidCertificate, InvalidGroup, InvalidRate, InvalidSlot
from everyfuture.futures import value_of
from everyfuture.waits import least_total, tightest


class Promises:
    """Limits for classes with rates, whose jobs arrive as a table says; the first limits may be placed."""

    def __init__(self, rates, table, *, fine, placed=()):
        check_rates(rates)
        check_table(table, len(rates))
        gauges = read_gauges([reading for row in table for reading in row])
        if fine < max(rates, default=fine):
            raise InvalidAmount(fine)
        check_row(placed, len(rates))
        self.rates = tuple(rates)
        self.table = tuple([tuple(row) for row in table])
        self.fine = fine
        self.placed = tuple(placed)
        self.gauges = gauges
        self.hour_gauges = ()

    def is_finished(self):
        """Return True if there is no open decision, otherwise False."""
        return len(self.placed) == len(self.rates)

    def allows(self, decision):
        """Return True if the decision may be placed next, otherwise False."""
        return not self.is_finished() and is_amount(decision)

    def after(self, decision):
        """Return the promises with the decision placed."""
        check_decision(self, decision)
        return Promises(self.rates, self.table, fine=self.fine, placed=self.placed + (decision,))

    def regret(self, decision, future):
        """Return how much more the decision costs in the future than the best one."""
        check_decision(self, decision)
        curve = self.curve(future)
        return curve(decision) - curve.lowest()[0]

    def directions(self, decision):
        """Return the two directions of the decision; the second one leads to greater or equal best limits."""
        check_decision(self, decision)
        second = {gauge: 1 for gauge in self.gauges}
        return [opposite(second), second]

    def least(self, future):
        """Return the least cost in the future."""
        rows = self.rows(future)
        dear = dear_order(self.rates, len(self.placed))
        return weighted_cost(self, dear, demands(rows, self.placed, dear, []))

    def level(self, future, limit):
        """Return the stretch list of the decisions whose regret in the future is at most the limit."""
        return self.curve(future).level(limit)

    def curve(self, future):
        """Return the curve whose value at x is the least cost after the decision x."""
        needs = self.needs(future)
        own = len(self.placed)
        dear = dear_order(self.rates, own + 1)
        weights = weights_of(self, dear)
        starts = sorted({need for need, weight in zip(needs, weights) if need > 0 and weight > 0})
        pieces = [(start, self.rates[own] - weight_above(start, needs, weights)) for start in [0] + starts]
        # With the limit 0 the class itself is in each group that leads to a demand.
        return Curve(weighted_cost(self, dear, demands(self.rows(future), self.placed, dear, [own])), pieces)

    def finish(self, future):
        """Return the completion in which each decision is the least one of the best decisions."""
        check_future(self, future)
        part = self
        while not part.is_finished():
            _, best, _ = part.curve(future).lowest()
            part = part.after(best)
        return list(part.placed[len(self.placed):])

    def check_completion(self, decisions):
        """Raise an error if the list is no completion."""
        check_whole_row(decisions, len(self.rates) - len(self.placed))

    def cost(self, decisions, future):
        """Return the cost of the completion in the future."""
        self.check_completion(decisions)
        limits = self.placed + tuple(decisions)
        shortfall, _ = tightest(self.rows(future), limits, [])
        return rated(self.rates, limits) + self.fine * shortfall

    def certificate(self, future):
        """Return a certificate that is valid in the future and whose bound is the least cost."""
        rows = self.rows(future)
        dear = dear_order(self.rates, len(self.placed))
        return [tightest(rows, self.placed, sorted(dear[:k]))[1] for k in range(len(dear) + 1)]

    def bound(self, certificate, future):
        """Return the bound of the certificate in the future."""
        rows = self.rows(future)
        dear = dear_order(self.rates, len(self.placed))
        check_entries(certificate, len(dear) + 1)
        amounts = []
        for k, group in enumerate(certificate):
            if not is_group(group, 0, len(self.placed)):
                raise InvalidCertificate(k)
            total = least_total(rows, list(group) + sorted(dear[:k]))
            amounts.append(total - sum([self.placed[at] for at in group]))
        return weighted_cost(self, dear, amounts)

    def rows(self, future):
        """Return the table with the values of its readings, a list of lists."""
        check_future(self, future)
        return [[value_of(reading, future) for reading in row] for row in self.table]

    def demand(self, group, future):
        """Return the demand of the group of open classes."""
        if not is_group(group, len(self.placed), len(self.rates)):
            raise InvalidGroup(group)
        return tightest(self.rows(future), self.placed, list(group))[0]

    def needs(self, future):
        """Return the list of the needs of the class of the open decision."""
        check_open(self)
        rows = self.rows(future)
        own = len(self.placed)
        dear = dear_order(self.rates, own + 1)
        joint, alone = demands(rows, self.placed, dear, [own]), demands(rows, self.placed, dear, [])
        return [one - two for one, two in zip(joint, alone)]


def check_rates(rates):
    """Raise an error for the first rate that is too small."""
    for at, rate in enumerate(rates):
        if rate < 1:
            raise InvalidRate(at)


def check_table(table, many):
    """Raise an error for the first row without a fine reading for each of so many classes."""
    for slot, row in enumerate(table):
        if len(row) != many or not all([is_reading(reading, 0) for reading in row]):
            raise InvalidSlot(slot)


def is_group(group, first, after):
    """Return True if it is an ascending list of classes from the first one up to the last one before `after`."""
    if not is_list(group) or not all([is_whole(at) and first <= at < after for at in group]):
        return False
    return all([one < two for one, two in zip(group, group[1:])])


def dear_order(rates, first):
    """Return the classes from the first one on by descending rates, those with equal rates in ascending order."""
    return [at for _, at in sorted([(-rate, at) for at, rate in enumerate(rates) if at >= first])]


def rated(rates, limits):
    """Return the sum of the rates times the limits of the first classes."""
    return sum([rate * limit for rate, limit in zip(rates, limits)])


def weights_of(promises, dear):
    """Return for k = 0, 1, .. what a unit of the demand of the first k of these classes adds to the cost."""
    rates = [promises.fine] + [promises.rates[at] for at in dear] + [0]
    return [one - two for one, two in zip(rates, rates[1:])]


def weight_above(x, needs, weights):
    """Return the sum of the weights of the needs that are greater than x."""
    return sum([weight for need, weight in zip(needs, weights) if x < need])


def demands(rows, placed, dear, group):
    """Return for k = 0, 1, .. the demand of the group together with the first k of the classes in dear order."""
    return [tightest(rows, placed, sorted(group + dear[:k]))[0] for k in range(len(dear) + 1)]


def weighted_cost(promises, dear, amounts):
    """Return what the placed limits cost and, for k = 0, 1, .., the amount for the first k of the classes."""
    weights = weights_of(promises, dear)
    return rated(promises.rates, promises.placed) + sum([one * two for one, two in zip(weights, amounts)])
