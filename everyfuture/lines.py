"""Lines: convex broken lines over all integers."""

from everyfuture.errors import InvalidAmount, InvalidCorner, Unbounded


class Line:
    """A line with the value `base` at 0 and the slope `left` before all corners, at each of which the slope rises."""

    def __init__(self, base, left, corners):
        check_corners(corners)
        self.base = base
        self.left = left
        self.corners = tuple([(position, rise) for position, rise in corners])

    def __call__(self, x):
        return value_on(self, x)

    def __add__(self, other):
        rises = {}
        for position, rise in self.corners + other.corners:
            rises[position] = rises.get(position, 0) + rise
        corners = [(position, rises[position]) for position in sorted(rises)]
        return Line(self.base + other.base, self.left + other.left, corners)

    def __eq__(self, other):
        return (isinstance(other, Line) and self.base == other.base and self.left == other.left
                and self.corners == other.corners)

    def slope(self, x):
        """Return the difference between the values at x + 1 and at x."""
        return slope_on(self, x)

    def moved(self, by):
        """Return the line whose value at x is the value of this line at x - by."""
        return Line(value_on(self, -by), self.left, [(position + by, rise) for position, rise in self.corners])

    def fed(self, price, room, extra):
        """Return the line of the lowest costs if units are bought at the price, those beyond the room for more."""
        for amount in (price, room, extra):
            if amount < 0:
                raise InvalidAmount(amount)
        if self.left + sum([rise for _, rise in self.corners]) < -(price + extra):
            raise Unbounded()
        slope = left = max(self.left, -(price + extra))
        corners = []
        places = sorted({at for position, _ in self.corners for at in (position - room, position)})
        for place in places:
            steeper = fed_slope(self, price, room, extra, place)
            if slope < steeper:
                corners.append((place, steeper - slope))
            slope = steeper
        return Line(fed_base(self, price, room, extra), left, corners)


def check_corners(corners):
    """Raise an error for the first corner that is not behind the one before it or does not rise."""
    for at, (position, rise) in enumerate(corners):
        if rise < 1 or (at > 0 and position <= corners[at - 1][0]):
            raise InvalidCorner(at)


def value_on(line, x):
    """Return the value of the line at x."""
    # A rise adds to each step behind its corner; the value at 0 is given, so steps up to there are taken off.
    rises = [rise * (max(0, x - position) - max(0, -position)) for position, rise in line.corners]
    return line.base + line.left * x + sum(rises)


def slope_on(line, x):
    """Return the difference between the values of the line at x + 1 and at x."""
    return line.left + sum([rise for position, rise in line.corners if position <= x])


def fed_slope(line, price, room, extra, x):
    """Return the slope at x of the line that is fed."""
    here = max(slope_on(line, x), -(price + extra))
    after = max(slope_on(line, x + room), -(price + extra))
    return max(here, min(-price, after))


def fed_base(line, price, room, extra):
    """Return the value at 0 of the line that is fed."""
    # The cost of buying is convex, and its slope changes only at the room and at corners.
    amounts = [0, room] + [position for position, _ in line.corners if position > 0]
    return min([price * many + extra * max(0, many - room) + value_on(line, many) for many in amounts])
