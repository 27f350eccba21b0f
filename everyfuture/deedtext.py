"""The texts of papers and of lists of commands."""

from everyfuture.errors import InvalidText
from everyfuture.kindtext import future_in, write_future
from everyfuture.words import bound_of, bound_word, exact_rest, line_of, list_of, name_of, rest_of, rows_of, write_list


def write_paper(rows):
    """Return the text of the rows of a paper."""
    lines = []
    for future, rest, certificate in rows:
        lines.append(write_future(future))
        lines.append(line_of("rest", [write_list(rest)]))
        lines.append(line_of("certificate", [write_list(certificate)]))
    return "\n".join(lines)


def read_paper(text):
    """Return the rows of the paper that the text describes."""
    rows = filled_rows(text)
    paper = []
    for at in range(0, len(rows), 3):
        future = future_in(rows, at)
        rest = list_of(rest_of(rows, at + 1, "rest"), at + 2)
        certificate = list_of(rest_of(rows, at + 2, "certificate"), at + 3)
        paper.append((future, rest, certificate))
    return paper


def write_commands(commands):
    """Return the text of the commands."""
    return "\n".join([command_line(command) for command in commands])


def read_commands(text):
    """Return the commands that the text describes."""
    rows = filled_rows(text)
    return [command_in(rows, at) for at in range(len(rows))]


def filled_rows(text):
    """Return the rows of a text, none for the empty text."""
    return rows_of(text) if text else []


def command_line(command):
    """Return the line of the command."""
    if command[0] == "decide":
        return line_of("decide", [write_list(command[1])])
    if command[0] == "learn":
        return line_of("learn", [command[1], bound_word(command[2]), bound_word(command[3])])
    return command[0]


def command_in(rows, at):
    """Return the command of the row."""
    word = rows[at][0]
    if word == "decide":
        return "decide", list_of(rest_of(rows, at, "decide"), at + 1)
    if word == "learn":
        gauge, low, high = exact_rest(rows, at, "learn", 3)
        return "learn", name_of(gauge, at + 1), bound_of(low, at + 1), bound_of(high, at + 1)
    if word not in ("undo", "redo") or len(rows[at]) > 1:
        raise InvalidText(at + 1)
    return (word,)
