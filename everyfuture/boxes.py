"""Lists of boxes: finding fewer boxes that contain the same futures.

A box is a tuple of stretches, one for each gauge. Boxes in a list have equally many stretches and may overlap.
"""

from everyfuture.stretches import join_stretches


def box_size(box):
    """Return the number of the futures of the box."""
    many = 1
    for low, high in box:
        many = many * (high - low + 1)
    return many


def with_stretch(box, at, low, high):
    """Return the box with another stretch at one place."""
    return box[:at] + ((low, high),) + box[at + 1:]


def is_within(inner, outer):
    """Return True if all futures of one box are in the other one, otherwise False."""
    for (low, high), (least, greatest) in zip(inner, outer):
        if low < least or greatest < high:
            return False
    return True


def is_within_one(box, boxes):
    """Return True if all futures of the box are in a single one of the boxes, otherwise False."""
    for other in boxes:
        if is_within(box, other):
            return True
    return False


def without_parts(boxes):
    """Return the boxes that are not within another one of these different boxes."""
    # In this order a box that has another one within it comes first.
    rows = sorted([([(low, -high) for low, high in box], box) for box in boxes])
    outer = []
    for _, box in rows:
        if not is_within_one(box, outer):
            outer.append(box)
    return outer


def joined_along(boxes, at):
    """Return the boxes, but those that differ in nothing but touching stretches at this place as one."""
    stretches = {}
    for box in boxes:
        stretches.setdefault(box[:at] + box[at + 1:], []).append(box[at])
    rows = [(other, stretch) for other in stretches for stretch in join_stretches(stretches[other])]
    return [other[:at] + (stretch,) + other[at:] for other, stretch in rows]


def simplified(boxes):
    """Return few boxes with the same futures as one or more boxes, in ascending order and without duplicates."""
    fewer = sorted(set(boxes))
    many = len(fewer) + 1
    while len(fewer) < many:
        many = len(fewer)
        for at in range(len(fewer[0])):
            fewer = joined_along(fewer, at)
        fewer = without_parts(fewer)
    return tuple(sorted(fewer))


def common_box(first, second):
    """Return the box of the futures that are in both boxes, or None if there are none."""
    stretches = []
    for (low, high), (least, greatest) in zip(first, second):
        if high < least or greatest < low:
            return None
        stretches.append((max(low, least), min(high, greatest)))
    return tuple(stretches)


def uncovered(box, boxes):
    """Return boxes that together contain each future of a box that is in none of some other boxes exactly once."""
    commons = [common_box(box, other) for other in boxes]
    parts = [common for common in commons if common is not None]
    if not parts:
        return [box]
    # The largest part leaves least to look at: what lies beside it, one gauge after another.
    _, largest = max([(box_size(part), part) for part in parts])
    left = []
    rest = box
    for at, (low, high) in enumerate(largest):
        least, greatest = rest[at]
        if least < low:
            left = left + uncovered(with_stretch(rest, at, least, low - 1), parts)
        if high < greatest:
            left = left + uncovered(with_stretch(rest, at, high + 1, greatest), parts)
        rest = with_stretch(rest, at, low, high)
    return left


def hull(boxes):
    """Return the smallest box that contains all futures of the boxes."""
    columns = [[box[at] for box in boxes] for at in range(len(boxes[0]))]
    return tuple([(min([low for low, _ in column]), max([high for _, high in column])) for column in columns])


def widened(box, boxes, limits):
    """Return the box, made as long as possible along one gauge after another with the futures of the boxes alone."""
    for at, (least, greatest) in enumerate(limits):
        low, high = box[at]
        if least < low:
            below = uncovered(with_stretch(box, at, least, low - 1), boxes)
            low = max([gap[at][1] + 1 for gap in below], default=least)
        if high < greatest:
            above = uncovered(with_stretch(box, at, high + 1, greatest), boxes)
            high = min([gap[at][0] - 1 for gap in above], default=greatest)
        box = with_stretch(box, at, low, high)
    return box


def all_widened(boxes):
    """Return few boxes with the same futures, none of which can be made longer along a gauge."""
    limits = hull(boxes)
    todo = [box for _, box in sorted([(-box_size(box), box) for box in boxes])]
    done = []
    while todo:
        wide = widened(todo[0], done + todo, limits)
        done = [box for box in done if not is_within(box, wide)] + [wide]
        todo = [box for box in todo if not is_within(box, wide)]
    return tuple(sorted(done))
