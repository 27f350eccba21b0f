"""What departments have in common: the gauges that they read, and the futures, kinds and decisions they accept."""

from everyfuture.errors import InvalidAmount, InvalidCertificate, InvalidDecision, InvalidPlan
from everyfuture.errors import MissingGauge, NothingOpen, OutOfRange, SharedGauge
from everyfuture.futures import is_gauge


def is_whole(value):
    """Return True if the value is an integer, otherwise False."""
    return isinstance(value, int) and not isinstance(value, bool)


def is_amount(value):
    """Return True if the value is an integer of at least 0, otherwise False."""
    return is_whole(value) and value >= 0


def is_list(value):
    """Return True if the value is a list or a tuple, which may stand for one, otherwise False."""
    return isinstance(value, (list, tuple))


def is_reading(reading, least):
    """Return True if it is the name of a gauge or an integer that is not too small, otherwise False."""
    if isinstance(reading, str):
        return is_gauge(reading)
    return reading >= least


def read_gauges(readings):
    """Return the gauges among the readings in ascending order, or raise an error for the first one read again."""
    gauges = [reading for reading in readings if isinstance(reading, str)]
    for at, gauge in enumerate(gauges):
        if gauge in gauges[:at]:
            raise SharedGauge(gauge)
    return tuple(sorted(gauges))


def least_value(department, gauge):
    """Return the least value that the department accepts for one of its gauges."""
    # No step takes less than an hour; all other readings may be 0.
    return 1 if gauge in department.hour_gauges else 0


def check_future(department, future):
    """Raise an error for the first gauge that the future lacks, then for the first one with too small a value."""
    for gauge in department.gauges:
        if gauge not in future:
            raise MissingGauge(gauge)
    for gauge in department.gauges:
        if future[gauge] < least_value(department, gauge):
            raise OutOfRange(gauge)


def check_kind(department, kind):
    """Raise an error for the first gauge that the kind lacks, then for the first one with too small a value."""
    for gauge in department.gauges:
        if gauge not in kind.gauges:
            raise MissingGauge(gauge)
    for gauge in department.gauges:
        if kind.span(gauge)[0] < least_value(department, gauge):
            raise OutOfRange(gauge)


def kind_for(department, kind):
    """Return the kind of the department, or raise an error if the department does not accept the kind."""
    check_kind(department, kind)
    return kind.onto(department.gauges)


def check_open(department):
    """Raise an error if the department is finished."""
    if department.is_finished():
        raise NothingOpen()


def check_decision(department, decision):
    """Raise an error if the department is finished or does not allow the decision."""
    check_open(department)
    if not department.allows(decision):
        raise InvalidDecision(decision)


def check_amount(amount):
    """Raise an error if the number is less than 0."""
    if amount < 0:
        raise InvalidAmount(amount)


def check_row(decisions, most):
    """Raise an error for the first one of the decisions of a row department that is too much or no amount."""
    for at, decision in enumerate(decisions):
        if most <= at or not is_amount(decision):
            raise InvalidPlan(at)


def check_whole_row(decisions, many):
    """Raise an error if the decisions are not a list of so many decisions of a row department."""
    if not is_list(decisions):
        raise InvalidPlan(0)
    check_row(decisions, many)
    if len(decisions) < many:
        raise InvalidPlan(len(decisions))


def check_entries(certificate, many):
    """Raise an error if the certificate is not a list with so many entries."""
    if not is_list(certificate):
        raise InvalidCertificate(0)
    if len(certificate) != many:
        raise InvalidCertificate(min(len(certificate), many))


def check_integers(certificate, many):
    """Raise an error if the certificate is not a list of so many integers."""
    check_entries(certificate, many)
    for at, entry in enumerate(certificate):
        if not is_whole(entry):
            raise InvalidCertificate(at)
