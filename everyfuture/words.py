"""Words: what the lines of all texts are made of.

A text is read as rows, one for each line, with the words of the line. A row is known by its index from 0 on, a line
in an error by its number from 1 on.
"""

from everyfuture.departments import is_list
from everyfuture.errors import InvalidText
from everyfuture.futures import is_gauge


def write_list(values):
    """Return the text of a nested list of integers and None."""
    words = []
    for value in values:
        if is_list(value):
            words.append(write_list(value))
        else:
            words.append(bound_word(value))
    return line_of("(", words + [")"])


def read_list(text):
    """Return the nested list that the text describes."""
    rows = rows_of(text)
    values = list_of(rows[0], 1)
    check_end(rows, 1)
    return values


def line_of(word, values):
    """Return the line of a word and some values, each of which is written as one word."""
    return " ".join([word] + [str(value) for value in values])


def bound_word(value):
    """Return the word of an integer or of None."""
    return "-" if value is None else str(value)


def rows_of(text):
    """Return the rows of the text; where spaces do not separate words, there is an empty word."""
    return [line.split(" ") for line in text.split("\n")]


def begins(rows, at, word):
    """Return True if there is such a row and its first word is this one, otherwise False."""
    return at < len(rows) and rows[at][0] == word


def rest_of(rows, at, word):
    """Return the words behind the first word of the row, or raise an error if it does not begin with this word."""
    if not begins(rows, at, word):
        raise InvalidText(at + 1)
    return rows[at][1:]


def exact_rest(rows, at, word, many):
    """Return the words behind the first word of the row, of which there must be so many."""
    words = rest_of(rows, at, word)
    if len(words) != many:
        raise InvalidText(at + 1)
    return words


def check_end(rows, many):
    """Raise an error if there are more rows than so many."""
    if many < len(rows):
        raise InvalidText(many + 1)


def is_integer_word(word):
    """Return True if the word is that of an integer, otherwise False."""
    digits = word[1:] if word.startswith("-") else word
    if not digits or not all(["0" <= sign <= "9" for sign in digits]):
        return False
    return word == "0" or digits[0] != "0"


def integer_of(word, line):
    """Return the integer of the word in the line."""
    if not is_integer_word(word):
        raise InvalidText(line)
    return int(word)


def amount_of(word, line):
    """Return the integer of the word in the line, which must not be negative."""
    number = integer_of(word, line)
    if number < 0:
        raise InvalidText(line)
    return number


def bound_of(word, line):
    """Return the integer of the word in the line, or None for a single sign."""
    return None if word == "-" else integer_of(word, line)


def name_of(word, line):
    """Return the word in the line, which must be the name of a gauge."""
    if not is_gauge(word):
        raise InvalidText(line)
    return word


def reading_of(word, line):
    """Return the reading of the word in the line, an integer or the name of a gauge."""
    return word if is_gauge(word) else integer_of(word, line)


def list_of(words, line):
    """Return the nested list of the words of the line."""
    begun = []
    for at, word in enumerate(words):
        if word == "(":
            begun.append([])
        elif not begun:
            raise InvalidText(line)
        elif word != ")":
            begun[-1].append(bound_of(word, line))
        elif len(begun) > 1:
            done = begun.pop()
            begun[-1].append(done)
        elif at + 1 == len(words):
            return begun[0]
        else:
            raise InvalidText(line)
    raise InvalidText(line)
