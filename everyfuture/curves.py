"""Curves: convex broken lines over the integers from 0 on, which rise in the end."""

from everyfuture.errors import InvalidAmount, InvalidCurve


class Curve:
    """A curve with the value `base` at 0, whose value grows by the slope of a piece with each step from its start."""

    def __init__(self, base, pieces):
        check_pieces(pieces)
        self.base = base
        self.pieces = tuple([(start, slope) for start, slope in pieces])

    def __call__(self, x):
        check_place(x)
        return value_at(self.base, self.pieces, x)

    def __add__(self, other):
        starts = sorted({start for start, slope in self.pieces + other.pieces})
        slopes = [slope_at(self.pieces, start) + slope_at(other.pieces, start) for start in starts]
        return Curve(self.base + other.base, list(zip(starts, slopes)))

    def __eq__(self, other):
        return isinstance(other, Curve) and self.base == other.base and self.pieces == other.pieces

    def __iter__(self):
        return iter(self.pieces)

    def slope(self, x):
        """Return the difference between the values at x + 1 and at x."""
        check_place(x)
        return slope_at(self.pieces, x)

    def lowest(self):
        """Return a tuple of the least value, the least x that has it, and the greatest x that has it."""
        least = min([start for start, slope in self.pieces if slope >= 0])
        greatest = min([start for start, slope in self.pieces if slope > 0])
        return value_at(self.base, self.pieces, least), least, greatest

    def level(self, limit):
        """Return the stretch list of all x whose value is at most the least value plus the limit."""
        if limit < 0:
            return []
        top = self.lowest()[0] + limit
        return [(first_under(self.base, self.pieces, top), last_under(self.base, self.pieces, top))]


def check_pieces(pieces):
    """Raise an error for the first piece that does not fit, and if the last slope does not rise."""
    for at, (start, slope) in enumerate(pieces):
        if at == 0 and start != 0:
            raise InvalidCurve(at)
        if at > 0 and (start <= pieces[at - 1][0] or slope <= pieces[at - 1][1]):
            raise InvalidCurve(at)
    if not pieces or pieces[-1][1] < 1:
        raise InvalidCurve(len(pieces))


def check_place(x):
    """Raise an error if x is less than 0."""
    if x < 0:
        raise InvalidAmount(x)


def value_at(base, pieces, x):
    """Return the value at x."""
    ends = [start for start, slope in pieces[1:]] + [x]
    return base + sum([slope * (min(x, end) - min(x, start)) for (start, slope), end in zip(pieces, ends)])


def slope_at(pieces, x):
    """Return the difference between the values at x + 1 and at x."""
    return max([slope for start, slope in pieces if start <= x])


def first_under(base, pieces, top):
    """Return the least x whose value is at most top, which is not less than the least value."""
    for (start, slope), (end, _) in zip(pieces, pieces[1:]):
        value = value_at(base, pieces, end)
        if slope < 0 and value <= top:
            return max(start, end - (top - value) // -slope)
    return 0


def last_under(base, pieces, top):
    """Return the greatest x whose value is at most top, which is not less than the least value."""
    rises = [(start, slope) for start, slope in pieces if slope > 0 and value_at(base, pieces, start) <= top]
    start, slope = rises[-1]
    return start + (top - value_at(base, pieces, start)) // slope
