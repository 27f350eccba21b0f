"""Slow but plain models, which the tests hold against the program."""

from itertools import product

from everyfuture.kinds import Kind

BIG = 10 ** 18
HUGE = 10 ** 59 + 7


def error_of(call, *values, **named):
    """Return the error that the call raises, or None."""
    try:
        call(*values, **named)
    except ValueError as error:
        return error
    return None


def told(call, *values, **named):
    """Return the name of the error that the call raises and the values of its attributes, or None."""
    error = error_of(call, *values, **named)
    return None if error is None else (type(error).__name__, *vars(error).values())


def points_of_box(box):
    """Return the set of all tuples of values in a box."""
    return set(product(*[range(low, high + 1) for low, high in box]))


def points_of(boxes):
    """Return the set of all tuples of values in some boxes."""
    return set().union(*[points_of_box(box) for box in boxes])


def cells_by_words(points):
    """Return the cells of a set of tuples of values, as the words of point 10 say."""
    if () in points:
        return ((),)
    rests = {}
    for first, *rest in sorted(points):
        rests.setdefault(first, set()).add(tuple(rest))
    runs = []
    for number in sorted(rests):
        if runs and runs[-1][1] == number - 1 and runs[-1][2] == rests[number]:
            runs[-1][1] = number
        else:
            runs.append([number, number, rests[number]])
    return tuple(((low, high),) + cell for low, high, rest in runs for cell in cells_by_words(rest))


def futures_of(kind):
    """Return all futures of a small kind, in their order."""
    return [dict(zip(kind.gauges, point)) for point in sorted(points_of(kind.cells))]


def random_box(random, width, top):
    """Return a box with values up to top."""
    return [tuple(sorted((random.randint(0, top), random.randint(0, top)))) for _ in range(width)]


def random_boxes(random, width, top, most):
    """Return a list of one or more boxes with values up to top."""
    return [random_box(random, width, top) for _ in range(random.randint(1, most))]


def split_boxes(random, boxes, many):
    """Return many boxes or more with the same futures, in some order, from splitting boxes at random places."""
    parts = [tuple(box) for box in boxes]
    tries = 0
    while len(parts) < many and tries < 50 * many:
        tries += 1
        box = parts.pop(random.randrange(len(parts)))
        at = random.randrange(len(box))
        low, high = box[at]
        if low == high:
            parts.append(box)
            continue
        middle = random.randrange(low, high)
        parts.append(box[:at] + ((low, middle),) + box[at + 1:])
        parts.append(box[:at] + ((middle + 1, high),) + box[at + 1:])
    random.shuffle(parts)
    return parts


def ends_by_words(kind, signs):
    """Return the ends of a small kind in the direction, in the order of futures."""
    futures = futures_of(kind)
    return [future for future in futures
            if not any(other != future and all(signs[gauge] * other[gauge] >= signs[gauge] * future[gauge]
                                               for gauge in future) for other in futures)]


def small_kind(random, gauges, top, most, least=0):
    """Return a kind with these gauges, values up to top and at most so many futures."""
    while True:
        boxes = [[(low + least, min(high, low + random.randint(0, 2)) + least) for low, high in box]
                 for box in random_boxes(random, len(gauges), top - least, 3)]
        kind = Kind(gauges, boxes)
        if kind.size() <= most:
            return kind
