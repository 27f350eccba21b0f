"""The texts of kinds and futures."""

from everyfuture.errors import InvalidText
from everyfuture.futures import is_gauge, part_of
from everyfuture.kinds import Kind
from everyfuture.words import amount_of, check_end, integer_of, line_of, name_of, rest_of, rows_of


def write_kind(kind):
    """Return the text of the kind."""
    cells = [line_of("cell", [stretch_word(stretch) for stretch in cell]) for cell in kind.cells]
    return "\n".join([line_of("kind", kind.gauges)] + cells)


def read_kind(text):
    """Return the kind that the text describes."""
    rows = rows_of(text)
    gauges = [name_of(word, 1) for word in rest_of(rows, 0, "kind")]
    boxes = []
    for at in range(1, len(rows)):
        boxes.append([stretch_of(word, at + 1) for word in rest_of(rows, at, "cell")])
    return Kind(gauges, boxes)


def write_future(future):
    """Return the text of the future."""
    return line_of("future", [f"{gauge}={future[gauge]}" for gauge in sorted(future)])


def read_future(text):
    """Return the future that the text describes."""
    rows = rows_of(text)
    future = future_in(rows, 0)
    check_end(rows, 1)
    return future


def stretch_word(stretch):
    """Return the word of the stretch."""
    low, high = stretch
    return str(low) if low == high else f"{low}..{high}"


def stretch_of(word, line):
    """Return the pair of ends of the word in the line; the second one may be less than the first one."""
    low, dots, high = word.partition("..")
    if dots == "":
        return amount_of(low, line), amount_of(low, line)
    return amount_of(low, line), amount_of(high, line)


def future_in(rows, at):
    """Return the future of the row."""
    future = {}
    for word in rest_of(rows, at, "future"):
        gauge, _, number = word.partition("=")
        if not is_gauge(gauge) or gauge in future:
            raise InvalidText(at + 1)
        future[gauge] = integer_of(number, at + 1)
    return part_of(future, list(future))
