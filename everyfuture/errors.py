"""The errors that the program raises, each with the values that say what is wrong."""


def as_lists(value):
    """Return a copy of a nested list in which tuples are lists, too."""
    if isinstance(value, (list, tuple)):
        return [as_lists(part) for part in value]
    return value


def in_order(future):
    """Return a copy of the future with its keys in ascending order."""
    return {gauge: future[gauge] for gauge in sorted(future)}


class FutureError(ValueError):
    """The base class of all errors of the program."""


class InvalidGauge(FutureError):
    """A string is not the name of a gauge, or it is named for the second time."""

    def __init__(self, gauge):
        super().__init__(f"not the name of a gauge, or named twice: {gauge}")
        self.gauge = gauge


class OtherGauges(FutureError):
    """Two kinds need the same gauges, but only one of them has this one."""

    def __init__(self, gauge):
        super().__init__(f"only one of the kinds has the gauge {gauge}")
        self.gauge = gauge


class SharedGauge(FutureError):
    """A gauge is used at two places, but only one is allowed."""

    def __init__(self, gauge):
        super().__init__(f"used at two places: the gauge {gauge}")
        self.gauge = gauge


class MissingGauge(FutureError):
    """A gauge is asked for that is not there."""

    def __init__(self, gauge):
        super().__init__(f"there is no gauge {gauge}")
        self.gauge = gauge


class OutOfRange(FutureError):
    """A gauge has a value that is less than its least value."""

    def __init__(self, gauge):
        super().__init__(f"too small a value of the gauge {gauge}")
        self.gauge = gauge


class InvalidSign(FutureError):
    """A direction gives a gauge a sign that is neither 1 nor -1."""

    def __init__(self, gauge):
        super().__init__(f"neither 1 nor -1: the sign of the gauge {gauge}")
        self.gauge = gauge


class InvalidBox(FutureError):
    """A box does not fit its gauges."""

    def __init__(self, index):
        super().__init__(f"box {index} does not fit its gauges")
        self.index = index


class InvalidPlan(FutureError):
    """A decision in a list cannot be placed, or the list ends too early."""

    def __init__(self, index):
        super().__init__(f"the list of decisions is wrong at {index}")
        self.index = index


class InvalidCertificate(FutureError):
    """A certificate is not valid."""

    def __init__(self, index):
        super().__init__(f"the certificate is wrong at {index}")
        self.index = index


class InvalidCurve(FutureError):
    """The pieces of a curve do not begin at 0, do not ascend, or do not end with a rise."""

    def __init__(self, index):
        super().__init__(f"the pieces of the curve are wrong at {index}")
        self.index = index


class InvalidCorner(FutureError):
    """The corners of a line do not ascend, or one does not rise."""

    def __init__(self, index):
        super().__init__(f"the corners of the line are wrong at {index}")
        self.index = index


class InvalidPeriod(FutureError):
    """A period of orders has too small an integer or a wrong name."""

    def __init__(self, index):
        super().__init__(f"period {index} has too small an integer or a wrong name")
        self.index = index


class InvalidRate(FutureError):
    """A rate of promises is less than 1."""

    def __init__(self, index):
        super().__init__(f"rate {index} is less than 1")
        self.index = index


class SplitPair(FutureError):
    """A pair of kinds does not belong to a single department of a house."""

    def __init__(self, index):
        super().__init__(f"pair {index} belongs to no department")
        self.index = index


class InvalidRow(FutureError):
    """A row of a paper is refused by the department."""

    def __init__(self, index):
        super().__init__(f"row {index} of the paper is refused")
        self.index = index


class EmptyKind(FutureError):
    """A kind would have no future."""


class NotInKind(FutureError):
    """A future is not in a kind."""


class NothingOpen(FutureError):
    """A department is finished, so no decision is open."""


class Unbounded(FutureError):
    """There is no least value."""


class InvalidAmount(FutureError):
    """A number is too small."""

    def __init__(self, amount):
        super().__init__(f"too small a number: {amount}")
        self.amount = amount


class InvalidNumber(FutureError):
    """Something is asked for by a number that it does not have; `count` tells how many there are."""

    def __init__(self, count):
        super().__init__(f"the numbers go from 0 up to, but not including, {count}")
        self.count = count


class InvalidTerm(FutureError):
    """A node of a term of plans is not as it must be."""

    def __init__(self, node):
        super().__init__(f"node {node} of the term is wrong")
        self.node = node


class InvalidSlot(FutureError):
    """A row of the table of promises is not as it must be."""

    def __init__(self, slot):
        super().__init__(f"row {slot} of the table is wrong")
        self.slot = slot


class NotSettled(FutureError):
    """A range begins with a value that leaves no good decision, even alone."""

    def __init__(self, value):
        super().__init__(f"not settled even alone: the value {value}")
        self.value = value


class InvalidText(FutureError):
    """A line of a text is not as it must be; lines count from 1."""

    def __init__(self, line):
        super().__init__(f"line {line} of the text is wrong")
        self.line = line


class InvalidStep(FutureError):
    """A step of a project has too small an integer or a wrong name."""

    def __init__(self, project, step):
        super().__init__(f"step {step} of project {project} has too small an integer or a wrong name")
        self.project = project
        self.step = step


class InvalidDecision(FutureError):
    """A department does not allow a decision."""

    def __init__(self, decision):
        super().__init__(f"not allowed: the decision {decision}")
        self.decision = as_lists(decision)


class InvalidGroup(FutureError):
    """A list is not an ascending list of classes that may stand in it."""

    def __init__(self, group):
        super().__init__(f"not an ascending list of such classes: {group}")
        self.group = as_lists(group)


class NotKept(FutureError):
    """Placed limits do not hold in a future, as the group shows."""

    def __init__(self, future, group):
        super().__init__(f"the limits of the group {group} do not hold in the future {future}")
        self.future = in_order(future)
        self.group = as_lists(group)


class NotCovered(FutureError):
    """No row of a paper covers a corner in the direction with this index."""

    def __init__(self, direction, future):
        super().__init__(f"no row covers {future} in direction {direction}")
        self.direction = direction
        self.future = in_order(future)
