"""Codes written as texts of several rows, and read."""

from sevenruns.asking import ask_text
from sevenruns.codethings import are_row_places
from sevenruns.errors import InvalidText
from sevenruns.rowfields import row_values

# The sorts of the fields behind a row's word.
CODE_SORTS = {
    "in": ("number", "positive"),
    "num": ("whole", "positive"),
    "add": ("number", "number", "positive"),
    "sub": ("number", "number", "positive"),
    "mul": ("number", "number", "positive"),
}


def code_text(code):
    """The code as a string, rows joined by newlines."""
    size, bottom, rows = code
    return "\n".join([f"code {size} {bottom}"] + [row_text(row) for row in rows])


def row_text(row):
    """A row of a code as a row of its text."""
    word, one, other, width = row
    return f"{word} {one} {width}" if word in ("in", "num") else f"{word} {one} {other} {width}"


def read_code(text):
    """The code that has this text, a string; InvalidText(line, field) for the first row that does not fit."""
    ask_text(text)
    lines = text.split("\n")
    first = lines[0].split(" ")
    if first[0] != "code":
        raise InvalidText(0, 0)
    size, bottom = row_values(0, first, ("positive", "positive"), False)
    if len(lines) == 1:
        raise InvalidText(1, 0)
    rows = [row_in(at, lines[at].split(" "), size) for at in range(1, len(lines))]
    return (size, bottom, tuple(rows))


def row_in(at, fields, size):
    """The row of a code of this size that the fields of row at tell."""
    word = fields[0]
    if word not in CODE_SORTS:
        raise InvalidText(at, 0)
    entries = row_values(at, fields, CODE_SORTS[word], False)
    if len(entries) == 2:
        entries = [entries[0], 0, entries[1]]
    row = (word, *entries)
    if not are_row_places(row, size, at - 1):
        raise InvalidText(at, 1)
    return row
