"""Plans: a department that picks parts of a term."""

from everyfuture.departments import check_decision, check_future, check_integers, check_open, is_amount, is_list
from everyfuture.errors import InvalidCertificate, InvalidPlan
from everyfuture.futures import value_of
from everyfuture.stretches import join_stretches
from everyfuture.terms import best_choices, check_term, chosen_term, copied, gauges_of, is_choice, is_price
from everyfuture.terms import least_cost, node_costs, nodes_of, open_parts, parts_of


class Plans:
    """A term of prices in which parts must be chosen; the first choices may be placed."""

    def __init__(self, term, *, placed=()):
        check_term(term)
        self.term = copied(term)
        self.placed = tuple(placed)
        self._chosen = chosen_term(self.term, self.placed)
        self.gauges = gauges_of(self._chosen)
        self.hour_gauges = ()

    def chosen(self):
        """Return the term after the placed decisions."""
        return self._chosen

    def choices(self):
        """Return the list of the decisions that may be placed next."""
        return list(range(len(open_parts(self._chosen))))

    def is_finished(self):
        """Return True if there is no open decision, otherwise False."""
        return not open_parts(self._chosen)

    def allows(self, decision):
        """Return True if the decision may be placed next, otherwise False."""
        return is_amount(decision) and decision < len(open_parts(self._chosen))

    def after(self, decision):
        """Return the plans with the decision placed."""
        check_decision(self, decision)
        return Plans(self.term, placed=self.placed + (decision,))

    def regret(self, decision, future):
        """Return how much more the decision costs in the future than the best one."""
        check_decision(self, decision)
        check_future(self, future)
        return part_regrets(self, future)[decision]

    def directions(self, decision):
        """Return a list with the direction of the decision, in which its regret never falls."""
        check_decision(self, decision)
        dearer = gauges_of(open_parts(self._chosen)[decision])
        return [{gauge: 1 if gauge in dearer else -1 for gauge in self.gauges}]

    def least(self, future):
        """Return the least cost in the future."""
        check_future(self, future)
        return least_cost(self._chosen, future)

    def level(self, future, limit):
        """Return the stretch list of the decisions whose regret in the future is at most the limit."""
        check_open(self)
        check_future(self, future)
        regrets = part_regrets(self, future)
        return join_stretches([(at, at) for at, regret in enumerate(regrets) if regret <= limit])

    def finish(self, future):
        """Return the completion in which each decision is the least one of the best decisions."""
        check_future(self, future)
        return best_choices(self._chosen, future)

    def check_completion(self, decisions):
        """Raise an error if the list is no completion."""
        completed_term(self, decisions)

    def cost(self, decisions, future):
        """Return the cost of the completion in the future."""
        term = completed_term(self, decisions)
        check_future(self, future)
        return least_cost(term, future)

    def certificate(self, future):
        """Return a certificate that is valid in the future and whose bound is the least cost."""
        check_future(self, future)
        return node_costs(self._chosen, future)

    def bound(self, certificate, future):
        """Return the bound of the certificate in the future."""
        check_future(self, future)
        nodes = nodes_of(self._chosen)
        check_integers(certificate, len(nodes))
        places = part_places(nodes)
        for number, node in enumerate(nodes):
            if greatest_bound(node, [certificate[at] for at in places[number]], future) < certificate[number]:
                raise InvalidCertificate(number)
        return certificate[0]


def part_regrets(plans, future):
    """Return the list of the regrets of the decisions that may be placed next."""
    # No choice is around the first one, so what its part costs more is what everything costs more.
    costs = [least_cost(part, future) for part in open_parts(plans.chosen())]
    return [cost - min(costs) for cost in costs]


def completed_term(plans, decisions):
    """Return the term after the completion, or raise an error if the list is no completion."""
    if not is_list(decisions):
        raise InvalidPlan(0)
    term = chosen_term(plans.chosen(), decisions)
    if open_parts(term):
        raise InvalidPlan(len(decisions))
    return term


def part_places(nodes):
    """Return for each node, in order, the list of the numbers of its parts."""
    places = [[] for _ in nodes]
    # From last to first: a node comes just before its parts, whose nodes have been put together by then.
    waiting = []
    for number in reversed(range(len(nodes))):
        many = len(parts_of(nodes[number]))
        places[number] = waiting[:many]
        waiting = [number] + waiting[many:]
    return places


def greatest_bound(node, bounds, future):
    """Return the greatest integer that a certificate may give to the node if it gives these to its parts."""
    if is_price(node):
        return value_of(node, future)
    return min(bounds) if is_choice(node) else sum(bounds)
