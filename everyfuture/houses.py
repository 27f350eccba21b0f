"""Houses: departments that consist of departments, which may be houses themselves."""

from everyfuture.departments import check_decision, check_entries, check_future, is_list
from everyfuture.errors import InvalidCertificate, InvalidPlan
from everyfuture.futures import check_disjoint


class House:
    """Departments that are told what to do together: a decision has an entry for each of them, None for nothing."""

    def __init__(self, departments):
        check_disjoint([part.gauges for part in departments])
        self.parts = tuple(departments)
        self.gauges = tuple(sorted([gauge for part in departments for gauge in part.gauges]))
        self.hour_gauges = tuple(sorted([gauge for part in departments for gauge in part.hour_gauges]))

    def is_finished(self):
        """Return True if all departments are finished, otherwise False."""
        return all([part.is_finished() for part in self.parts])

    def allows(self, decision):
        """Return True if the decision may be placed next, otherwise False."""
        if self.is_finished() or not is_list(decision) or len(decision) != len(self.parts):
            return False
        return all([entry is None or part.allows(entry) for part, entry in zip(self.parts, decision)])

    def after(self, decision):
        """Return the house with the entries of the decision placed."""
        check_decision(self, decision)
        return House([part if entry is None else part.after(entry) for part, entry in zip(self.parts, decision)])

    def regret(self, decision, future):
        """Return how much more the decision costs in the future than the best one."""
        check_decision(self, decision)
        check_future(self, future)
        return sum([part.regret(entry, future) for part, entry in zip(self.parts, decision)
                    if entry is not None])

    def directions(self, decision):
        """Return the directions of the decision: all combinations of one direction for each department."""
        check_decision(self, decision)
        rows = [[]]
        for part, entry in zip(self.parts, decision):
            own = [list(signs.items()) for signs in part_directions(part, entry)]
            rows = [row + signs for row in rows for signs in own]
        return [dict(sorted(row)) for row in rows]

    def least(self, future):
        """Return the least cost in the future."""
        check_future(self, future)
        return sum([part.least(future) for part in self.parts])

    def finish(self, future):
        """Return the list of the completions in which each decision is the least one of the best decisions."""
        check_future(self, future)
        return [part.finish(future) for part in self.parts]

    def check_completion(self, decisions):
        """Raise an error if it is not a list with a completion for each department."""
        if not is_list(decisions):
            raise InvalidPlan(0)
        if len(decisions) != len(self.parts):
            raise InvalidPlan(min(len(decisions), len(self.parts)))
        for at, (part, own) in enumerate(zip(self.parts, decisions)):
            try:
                part.check_completion(own)
            except InvalidPlan:
                raise InvalidPlan(at)

    def cost(self, decisions, future):
        """Return the cost of the completions in the future."""
        self.check_completion(decisions)
        check_future(self, future)
        return sum([part.cost(own, future) for part, own in zip(self.parts, decisions)])

    def certificate(self, future):
        """Return a list of certificates that are valid in the future and whose bounds are the least costs."""
        check_future(self, future)
        return [part.certificate(future) for part in self.parts]

    def bound(self, certificate, future):
        """Return the sum of the bounds of the certificates in the future."""
        check_future(self, future)
        check_entries(certificate, len(self.parts))
        total = 0
        for at, (part, own) in enumerate(zip(self.parts, certificate)):
            try:
                total = total + part.bound(own, future)
            except InvalidCertificate:
                raise InvalidCertificate(at)
        return total


def leaves_of(department):
    """Return the list of the departments that are no houses, in order; just the department if it is no house."""
    if not isinstance(department, House):
        return [department]
    return [leaf for part in department.parts for leaf in leaves_of(part)]


def part_directions(part, entry):
    """Return the directions of an entry of a decision; there is one, which may be any, if the entry is None."""
    if entry is None:
        return [{gauge: 1 for gauge in part.gauges}]
    return part.directions(entry)
