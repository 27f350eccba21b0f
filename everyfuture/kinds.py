"""Kinds: sets of futures with the same gauges."""

from everyfuture.cells import COMMON, EITHER, WITHOUT
from everyfuture.cells import arranged, cells_of, combined, future_count, number_of_values, values_at
from everyfuture.errors import EmptyKind, InvalidBox, InvalidGauge, InvalidNumber
from everyfuture.errors import MissingGauge, NotInKind, OtherGauges, SharedGauge
from everyfuture.futures import is_gauge
from everyfuture.stretches import join_stretches


class Kind:
    """A set of futures that give the same gauges a value each; it is never empty."""

    def __init__(self, gauges, boxes):
        check_names(gauges)
        check_boxes(boxes, len(gauges))
        order = ascending_places(gauges)
        self.gauges = tuple(sorted(gauges))
        self.cells = cells_of([arranged(box, order) for box in boxes])

    def __or__(self, other):
        return joint_kind(self, other, EITHER)

    def __and__(self, other):
        return joint_kind(self, other, COMMON)

    def __sub__(self, other):
        return joint_kind(self, other, WITHOUT)

    def __mul__(self, other):
        for gauge in self.gauges:
            if gauge in other.gauges:
                raise SharedGauge(gauge)
        gauges = self.gauges + other.gauges
        order = ascending_places(gauges)
        cells = [arranged(first + second, order) for first in self.cells for second in other.cells]
        return kind_of(gauges, tuple(sorted(cells)))

    def __contains__(self, future):
        if not all([gauge in future for gauge in self.gauges]):
            return False
        values = [future[gauge] for gauge in self.gauges]
        return any([has_values(cell, values) for cell in self.cells])

    def __eq__(self, other):
        return isinstance(other, Kind) and self.gauges == other.gauges and self.cells == other.cells

    def __iter__(self):
        return iter(self.cells)

    def size(self):
        """Return the number of futures."""
        return future_count(self.cells)

    def is_part_of(self, other):
        """Return True if each future of the kind is a future of the other kind, otherwise False."""
        check_same_gauges(self, other)
        return not combined(self.cells, other.cells, WITHOUT)

    def cut(self, gauge, *, low=None, high=None):
        """Return the kind of the futures whose value of the gauge is neither less than low nor greater than high."""
        least, greatest = self.span(gauge)
        least = least if low is None else max(low, least)
        greatest = greatest if high is None else min(high, greatest)
        if greatest < least:
            raise EmptyKind()
        box = tuple([(least, greatest) if name == gauge else self.span(name) for name in self.gauges])
        return kind_of(self.gauges, combined(self.cells, (box,), COMMON))

    def onto(self, gauges):
        """Return the kind of the futures without all gauges but these."""
        for at, gauge in enumerate(gauges):
            if gauge in gauges[:at]:
                raise InvalidGauge(gauge)
            place_of(self, gauge)
        if len(gauges) == len(self.gauges):
            return kind_of(self.gauges, self.cells)
        order = [place_of(self, gauge) for gauge in gauges]
        return Kind(gauges, [arranged(cell, order) for cell in self.cells])

    def span(self, gauge):
        """Return a pair of the least and the greatest value of the gauge."""
        at = place_of(self, gauge)
        return min([cell[at][0] for cell in self.cells]), max([cell[at][1] for cell in self.cells])

    def values_of(self, gauge):
        """Return the stretch list of the values of the gauge."""
        at = place_of(self, gauge)
        return join_stretches([cell[at] for cell in self.cells])

    def future_at(self, number):
        """Return the future with this number."""
        if number < 0 or self.size() <= number:
            raise InvalidNumber(self.size())
        return dict(zip(self.gauges, values_at(self.cells, number)))

    def number_of(self, future):
        """Return the number of the future."""
        if future not in self:
            raise NotInKind()
        return number_of_values(self.cells, [future[gauge] for gauge in self.gauges])

    def complete(self, partial):
        """Return the first future of the kind that has the values of the partial one."""
        found = []
        for cell in self.cells:
            lows = [low for low, high in cell]
            values = [partial.get(gauge, low) for gauge, low in zip(self.gauges, lows)]
            if has_values(cell, values):
                found.append(values)
        if not found:
            raise NotInKind()
        return dict(zip(self.gauges, min(found)))


def check_names(gauges):
    """Raise an error for the first string that is not the name of a gauge or is a name for the second time."""
    for at, gauge in enumerate(gauges):
        if not is_gauge(gauge) or gauge in gauges[:at]:
            raise InvalidGauge(gauge)


def check_boxes(boxes, many):
    """Raise an error for the first box that is no box for so many gauges, and if there is no box."""
    for at, box in enumerate(boxes):
        if len(box) != many or any([low < 0 or high < low for low, high in box]):
            raise InvalidBox(at)
    if not boxes:
        raise EmptyKind()


def check_same_gauges(first, second):
    """Raise an error for the first gauge that only one of two kinds has."""
    for gauge in sorted(first.gauges + second.gauges):
        if gauge not in first.gauges or gauge not in second.gauges:
            raise OtherGauges(gauge)


def ascending_places(names):
    """Return the indexes of the names, in the order of the names."""
    return [at for name, at in sorted([(name, at) for at, name in enumerate(names)])]


def place_of(kind, gauge):
    """Return the index of the gauge among the gauges of the kind."""
    if gauge not in kind.gauges:
        raise MissingGauge(gauge)
    return kind.gauges.index(gauge)


def has_values(cell, values):
    """Return True if the values, in the order of the gauges, are those of a future of the cell, otherwise False."""
    return all([low <= number <= high for (low, high), number in zip(cell, values)])


def kind_of(gauges, cells):
    """Return the kind with these gauges whose cells are known already, or raise an error if there are none."""
    # The first cell is enough to create a kind; finding all cells again would take long.
    kind = Kind(gauges, cells[:1])
    kind.cells = cells
    return kind


def joint_kind(first, second, kept):
    """Return the kind of those futures of two kinds with the same gauges that `kept` tells (see cells.py)."""
    check_same_gauges(first, second)
    return kind_of(first.gauges, combined(first.cells, second.cells, kept))


def single(future):
    """Return the kind with this future alone."""
    gauges = sorted(future)
    return Kind(gauges, [[(future[gauge], future[gauge]) for gauge in gauges]])


def menu(gauge, values):
    """Return the kind with this gauge alone and these values."""
    return Kind([gauge], [[(number, number)] for number in values])


def both(kinds):
    """Return the product of the kinds, from first to last."""
    joint = Kind([], [[]])
    for kind in kinds:
        joint = joint * kind
    return joint


def either(kinds):
    """Return the union of the kinds, from first to last."""
    if not kinds:
        raise EmptyKind()
    joint = kinds[0]
    for kind in kinds[1:]:
        joint = joint | kind
    return joint
