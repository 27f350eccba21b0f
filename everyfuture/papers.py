"""Papers: rows (future, rest, certificate) that prove how much a decision can cost too much at most."""

from everyfuture.departments import check_decision, kind_for
from everyfuture.ends import corner_values, ends, is_reached, signs_of
from everyfuture.errors import InvalidCertificate, InvalidPlan, InvalidRow, MissingGauge, NotCovered, OutOfRange
from everyfuture.errors import as_lists
from everyfuture.houses import House
from everyfuture.losses import values_for


def paper_bound(department, decision, kind, rows):
    """Return a number that the loss of the decision on the kind does not exceed, as the paper proves."""
    check_decision(department, decision)
    own = kind_for(department, kind)
    amounts = row_amounts(department, decision, rows)
    futures = [future for future, _, _ in rows]
    for direction, signs in enumerate(department.directions(decision)):
        bare = bare_corner(own, signs, futures)
        if bare is not None:
            raise NotCovered(direction, bare)
    return max(amounts)


def make_paper(department, decision, kind):
    """Return a paper that proves the loss of the decision on the kind."""
    check_decision(department, decision)
    own = kind_for(department, kind)
    futures = {}
    for signs in department.directions(decision):
        for future in ends(own, signs):
            futures[values_for(department, future)] = future
    covering = list(futures.values())
    rests = answers(department.after(decision), covering, finish_of)
    return list(zip(covering, rests, answers(department, covering, certificate_of)))


def finish_of(department, future):
    """Return the completion of the department for the future."""
    return department.finish(future)


def certificate_of(department, future):
    """Return the certificate of the department for the future."""
    return department.certificate(future)


def answers(department, futures, ask):
    """Return what `ask` returns for each of the futures, for a house the lists of what it returns for the parts."""
    if isinstance(department, House):
        rows = [answers(part, futures, ask) for part in department.parts]
        return [[row[at] for row in rows] for at in range(len(futures))]
    # Many futures of a house are alike for one of its departments, so each of them is asked for only once.
    found = {}
    for future in futures:
        values = values_for(department, future)
        if values not in found:
            found[values] = ask(department, future)
    return [as_lists(found[values_for(department, future)]) for future in futures]


def row_amounts(department, decision, rows):
    """Return the amounts of the rows, or raise an error for the first row that is refused."""
    after = department.after(decision)
    amounts = []
    for at, (future, rest, certificate) in enumerate(rows):
        try:
            amounts.append(after.cost(rest, future) - department.bound(certificate, future))
        except (InvalidPlan, MissingGauge, OutOfRange, InvalidCertificate):
            raise InvalidRow(at)
    return amounts


def bare_corner(kind, signs, futures):
    """Return the first corner in the direction that no future is at least as far as, or None if there is none."""
    row = signs_of(kind, signs)
    reaches = {tuple(reach_of(row, [future[gauge] for gauge in kind.gauges])): True for future in futures}
    for cell in kind.cells:
        values = corner_values(cell, row)
        reach = reach_of(row, values)
        # The rows of most papers have the corners themselves, which is told without a look at all rows.
        if tuple(reach) not in reaches and not is_reached(reach, reaches):
            return dict(zip(kind.gauges, values))
    return None


def reach_of(row, values):
    """Return how far the values are with these signs, as a list."""
    return [sign * value for sign, value in zip(row, values)]
