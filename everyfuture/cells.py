"""Cells: the boxes into which a kind divides its futures, as point 10 of the document defines them.

A box is a tuple of stretches here, one for each gauge in ascending order. Cells are a tuple of boxes; the empty
tuple stands for no futures at all.
"""

from everyfuture.boxes import all_widened, box_size, simplified

# What `combined` keeps: the futures of the first kind alone, those of both kinds, those of the second kind alone.
EITHER = (True, True, True)
COMMON = (False, True, False)
WITHOUT = (True, False, False)
# So many boxes may be left behind slices before longer boxes with the same futures are looked for.
MOST_BOXES = 10000


def arranged(box, order):
    """Return the box with its stretches in another order, which may leave some out."""
    return tuple([(box[at][0], box[at][1]) for at in order])


def heads(cells):
    """Return the runs of the first gauge in order, as rows (low, high, cells of the rest)."""
    rests = {}
    for cell in cells:
        rests.setdefault(cell[0], []).append(cell[1:])
    return [(low, high, tuple(rests[low, high])) for low, high in rests]


def joined(runs):
    """Return the cells of ascending runs (low, high, cells of the rest); touching runs with equal rests become one."""
    longest = []
    for low, high, rest in runs:
        if longest and longest[-1][1] + 1 == low and longest[-1][2] == rest:
            longest[-1] = (longest[-1][0], high, rest)
        elif rest:
            longest.append((low, high, rest))
    return tuple([((start, end),) + cell for start, end, tail in longest for cell in tail])


def spread(runs, starts):
    """Return for each of the ascending starts the cells of the rest behind it, () where no run has it."""
    rests = []
    at = 0
    for start in starts:
        while at < len(runs) and runs[at][1] < start:
            at += 1
        rests.append(runs[at][2] if at < len(runs) and runs[at][0] <= start else ())
    return rests


def combined(first, second, kept):
    """Return the cells of those futures of two kinds with the same gauges that `kept` tells."""
    if first == second:
        return first if kept[1] else ()
    if not second:
        return first if kept[0] else ()
    if not first:
        return second if kept[2] else ()
    ours, theirs = heads(first), heads(second)
    starts = sorted({end for low, high, rest in ours + theirs for end in (low, high + 1)})
    ends = [start - 1 for start in starts[1:]]
    rows = list(zip(starts, ends, spread(ours, starts), spread(theirs, starts)))
    return joined([(low, high, combined(one, two, kept)) for low, high, one, two in rows])


def sliced(boxes):
    """Return rows (low, high, boxes of the rest) for the stretches between neighbouring ends of the first gauge."""
    starts = sorted({end for box in boxes for end in (box[0][0], box[0][1] + 1)})
    rows = []
    for low, after in zip(starts, starts[1:]):
        rests = [box[1:] for box in boxes if box[0][0] <= low <= box[0][1]]
        if rests:
            rows.append((low, after - 1, rests))
    return rows


def sliced_levels(boxes, most):
    """Return for each gauge the slices of all lists of boxes that may be left behind the gauges before it.

    A slice is a row (low, high, index of the list that is left behind it). Equal lists are looked at only once,
    however many ways lead to them. Return None if the lists behind all slices have more than `most` boxes together;
    None for `most` stands for any number.
    """
    levels = []
    states = [boxes]
    work = 0
    while states[0][0]:
        places = {}
        level = []
        for state in states:
            rows = []
            for low, high, rests in sliced(state):
                left = simplified(rests)
                work = work + len(left)
                if most is not None and most < work:
                    return None
                rows.append((low, high, places.setdefault(left, len(places))))
            level.append(rows)
        levels.append(level)
        states = list(places)
    return levels


def cells_of(boxes):
    """Return the cells of the futures of one or more boxes with equally many gauges."""
    fewer = simplified(boxes)
    levels = sliced_levels(fewer, MOST_BOXES)
    if levels is None:
        # Many lists of boxes that overlap hide the same futures; longer boxes show this, but take long to find.
        levels = sliced_levels(all_widened(fewer), None)
    # After the last gauge nothing but the empty box is left.
    cells = [((),)]
    for level in levels[::-1]:
        cells = [joined([(low, high, cells[at]) for low, high, at in rows]) for rows in level]
    return cells[0]


def future_count(cells):
    """Return the number of the futures of some cells."""
    return sum([box_size(cell) for cell in cells])


def values_at(cells, number):
    """Return the values of the future with this number, which must exist, as a list."""
    if not cells[0]:
        return []
    runs = heads(cells)
    sizes = [future_count(rest) * (high - low + 1) for low, high, rest in runs]
    at = 0
    while sizes[at] <= number:
        number = number - sizes[at]
        at += 1
    low, _, rest = runs[at]
    steps, number = divmod(number, future_count(rest))
    return [low + steps] + values_at(rest, number)


def number_of_values(cells, values):
    """Return the number of the future with these values, which must exist."""
    number = 0
    if values:
        for low, high, rest in heads(cells):
            number = number + future_count(rest) * max(0, min(values[0], high + 1) - low)
            if low <= values[0] <= high:
                number = number + number_of_values(rest, values[1:])
    return number
