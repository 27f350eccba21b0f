"""Cells: the boxes into which a kind divides its futures, as point 10 of the document defines them.

A box is a tuple of stretches here, one for each gauge in ascending order. Cells are a tuple of boxes; the empty
tuple stands for no futures at all.
"""

from everyfuture.stretches import join_stretches

# What `combined` keeps: the futures of the first kind alone, those of both kinds, those of the second kind alone.
EITHER = (True, True, True)
COMMON = (False, True, False)
WITHOUT = (True, False, False)


def arranged(box, order):
    """Return the box with its stretches in another order, which may leave some out."""
    return tuple([(box[at][0], box[at][1]) for at in order])


def heads(cells):
    """Return the runs of the first gauge in order, as rows (low, high, cells of the rest)."""
    rests = {}
    for cell in cells:
        rests.setdefault(cell[0], []).append(cell[1:])
    return [(low, high, tuple(rests[low, high])) for low, high in rests]


def joined(runs):
    """Return the cells of ascending runs (low, high, cells of the rest); touching runs with equal rests become one."""
    longest = []
    for low, high, rest in runs:
        if longest and longest[-1][1] + 1 == low and longest[-1][2] == rest:
            longest[-1] = (longest[-1][0], high, rest)
        elif rest:
            longest.append((low, high, rest))
    return tuple([((start, end),) + cell for start, end, tail in longest for cell in tail])


def spread(runs, starts):
    """Return for each of the ascending starts the cells of the rest behind it, () where no run has it."""
    rests = []
    at = 0
    for start in starts:
        while at < len(runs) and runs[at][1] < start:
            at += 1
        rests.append(runs[at][2] if at < len(runs) and runs[at][0] <= start else ())
    return rests


def combined(first, second, kept):
    """Return the cells of those futures of two kinds with the same gauges that `kept` tells."""
    if first == second:
        return first if kept[1] else ()
    if not second:
        return first if kept[0] else ()
    if not first:
        return second if kept[2] else ()
    ours, theirs = heads(first), heads(second)
    starts = sorted({end for low, high, rest in ours + theirs for end in (low, high + 1)})
    ends = [start - 1 for start in starts[1:]]
    rows = list(zip(starts, ends, spread(ours, starts), spread(theirs, starts)))
    return joined([(low, high, combined(one, two, kept)) for low, high, one, two in rows])


def is_within(inner, outer):
    """Return True if all futures of one box are in the other one, otherwise False."""
    for (low, high), (least, greatest) in zip(inner, outer):
        if low < least or greatest < high:
            return False
    return True


def is_within_one(box, boxes):
    """Return True if all futures of the box are in a single one of some boxes, otherwise False."""
    for other in boxes:
        if is_within(box, other):
            return True
    return False


def without_parts(boxes):
    """Return the boxes that are not within another one of these different boxes."""
    # In this order a box that has another one within it comes first.
    rows = sorted([([(low, -high) for low, high in box], box) for box in boxes])
    outer = []
    for _, box in rows:
        if not is_within_one(box, outer):
            outer.append(box)
    return outer


def joined_along(boxes, at):
    """Return the boxes, but those that differ in nothing but touching stretches at this place as one."""
    stretches = {}
    for box in boxes:
        stretches.setdefault(box[:at] + box[at + 1:], []).append(box[at])
    rows = [(other, stretch) for other in stretches for stretch in join_stretches(stretches[other])]
    return [other[:at] + (stretch,) + other[at:] for other, stretch in rows]


def simplified(boxes):
    """Return few boxes with the same futures as one or more boxes, in ascending order and without duplicates."""
    fewer = sorted(set(boxes))
    many = len(fewer) + 1
    while len(fewer) < many:
        many = len(fewer)
        for at in range(len(fewer[0])):
            fewer = joined_along(fewer, at)
        fewer = without_parts(fewer)
    return tuple(sorted(fewer))


def sliced(boxes):
    """Return rows (low, high, boxes of the rest) for the stretches between neighbouring ends of the first gauge."""
    starts = sorted({end for box in boxes for end in (box[0][0], box[0][1] + 1)})
    rows = []
    for low, after in zip(starts, starts[1:]):
        rests = [box[1:] for box in boxes if box[0][0] <= low < box[0][1] + 1]
        if rests:
            rows.append((low, after - 1, simplified(rests)))
    return rows


def cells_of(boxes):
    """Return the cells of the futures of one or more boxes with equally many gauges.

    It goes through the gauges in order and keeps, for each gauge, which boxes may be left behind the values of the
    gauges before it. So equal boxes are looked at only once, however many ways lead to them.
    """
    levels = []
    states = [simplified(boxes)]
    while states[0][0]:
        places = {}
        rows = []
        for state in states:
            runs = []
            for low, high, rest in sliced(state):
                runs.append((low, high, places.setdefault(rest, len(places))))
            rows.append(runs)
        levels.append(rows)
        states = list(places)
    # After the last gauge nothing but the empty box is left.
    cells = [((),)]
    for level in levels[::-1]:
        cells = [joined([(low, high, cells[at]) for low, high, at in row]) for row in level]
    return cells[0]


def future_count(cells):
    """Return the number of the futures of some cells."""
    total = 0
    for cell in cells:
        many = 1
        for low, high in cell:
            many = many * (high - low + 1)
        total = total + many
    return total


def values_at(cells, number):
    """Return the values of the future with this number, which must exist, as a list."""
    if not cells[0]:
        return []
    runs = heads(cells)
    sizes = [future_count(rest) * (high - low + 1) for low, high, rest in runs]
    at = 0
    while sizes[at] <= number:
        number = number - sizes[at]
        at += 1
    low, _, rest = runs[at]
    steps, number = divmod(number, future_count(rest))
    return [low + steps] + values_at(rest, number)


def number_of_values(cells, values):
    """Return the number of the future with these values, which must exist."""
    number = 0
    if values:
        for low, high, rest in heads(cells):
            number = number + future_count(rest) * max(0, min(values[0], high + 1) - low)
            if low <= values[0] <= high:
                number = number + number_of_values(rest, values[1:])
    return number
