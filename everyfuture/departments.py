"""What departments have in common: the gauges that they read, and the futures and decisions that they accept."""

from everyfuture.errors import InvalidDecision, MissingGauge, NothingOpen, OutOfRange, SharedGauge
from everyfuture.futures import is_gauge


def is_whole(value):
    """Return True if the value is an integer, otherwise False."""
    return isinstance(value, int) and not isinstance(value, bool)


def is_amount(value):
    """Return True if the value is an integer of at least 0, otherwise False."""
    return is_whole(value) and value >= 0


def is_list(value):
    """Return True if the value is a list or a tuple, which may stand for one, otherwise False."""
    return isinstance(value, (list, tuple))


def is_reading(reading, least):
    """Return True if it is the name of a gauge or an integer that is not too small, otherwise False."""
    if isinstance(reading, str):
        return is_gauge(reading)
    return reading >= least


def read_gauges(readings):
    """Return the gauges among the readings in ascending order, or raise an error for the first one read again."""
    gauges = [reading for reading in readings if isinstance(reading, str)]
    for at, gauge in enumerate(gauges):
        if gauge in gauges[:at]:
            raise SharedGauge(gauge)
    return tuple(sorted(gauges))


def check_future(department, future):
    """Raise an error for the first gauge that the future lacks, then for the first one with too small a value."""
    for gauge in department.gauges:
        if gauge not in future:
            raise MissingGauge(gauge)
    for gauge in department.gauges:
        # No step takes less than an hour; all other readings may be 0.
        if future[gauge] < (1 if gauge in department.hour_gauges else 0):
            raise OutOfRange(gauge)


def check_open(department):
    """Raise an error if the department is finished."""
    if department.is_finished():
        raise NothingOpen()


def check_decision(department, decision):
    """Raise an error if the department is finished or does not allow the decision."""
    check_open(department)
    if not department.allows(decision):
        raise InvalidDecision(decision)
