"""Papers: rows (future, rest, certificate) that prove how much a decision can cost too much at most."""

from everyfuture.departments import check_decision, kind_for
from everyfuture.ends import corner_values, ends, is_reached, signs_of
from everyfuture.errors import InvalidCertificate, InvalidPlan, InvalidRow, MissingGauge, NotCovered, OutOfRange


def paper_bound(department, decision, kind, rows):
    """Return a number that the loss of the decision on the kind does not exceed, as the paper proves."""
    check_decision(department, decision)
    own = kind_for(department, kind)
    amounts = row_amounts(department, decision, rows)
    futures = [future for future, _, _ in rows]
    for direction, signs in enumerate(department.directions(decision)):
        bare = bare_corner(own, signs, futures)
        if bare is not None:
            raise NotCovered(direction, bare)
    return max(amounts)


def make_paper(department, decision, kind):
    """Return a paper that proves the loss of the decision on the kind."""
    check_decision(department, decision)
    own = kind_for(department, kind)
    after = department.after(decision)
    rows = {}
    for signs in department.directions(decision):
        for future in ends(own, signs):
            values = tuple(future.values())
            if values not in rows:
                rows[values] = (future, after.finish(future), department.certificate(future))
    return list(rows.values())


def row_amounts(department, decision, rows):
    """Return the amounts of the rows, or raise an error for the first row that is refused."""
    after = department.after(decision)
    amounts = []
    for at, (future, rest, certificate) in enumerate(rows):
        try:
            amounts.append(after.cost(rest, future) - department.bound(certificate, future))
        except (InvalidPlan, MissingGauge, OutOfRange, InvalidCertificate):
            raise InvalidRow(at)
    return amounts


def bare_corner(kind, signs, futures):
    """Return the first corner in the direction that no future is at least as far as, or None if there is none."""
    row = signs_of(kind, signs)
    reaches = {tuple(reach_of(row, [future[gauge] for gauge in kind.gauges])): True for future in futures}
    for cell in kind.cells:
        values = corner_values(cell, row)
        reach = reach_of(row, values)
        # The rows of most papers have the corners themselves, which is told without a look at all rows.
        if tuple(reach) not in reaches and not is_reached(reach, reaches):
            return dict(zip(kind.gauges, values))
    return None


def reach_of(row, values):
    """Return how far the values are with these signs, as a list."""
    return [sign * value for sign, value in zip(row, values)]
