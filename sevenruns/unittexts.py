"""Units written as texts of several rows, and read."""

from sevenruns.asking import ask_text
from sevenruns.errors import InvalidText
from sevenruns.plaintexts import box_line, line_words, span_word
from sevenruns.rowfields import row_values

LINE_WORDS = ("num", "add", "sub", "mul", "call")

# Which first words can come behind a row with this first word.
BEHIND = {
    "": ("unit",),
    "unit": ("def",),
    "def": ("num", "add", "sub", "mul", "call"),
    "line": ("num", "add", "sub", "mul", "call", "keep", "done"),
    "keep": ("keep", "done"),
    "done": ("def", "end"),
    "end": (),
}

# The sorts of the fields behind a first word; the last of a def and a call may come again.
SORTS = {
    "unit": ("name",),
    "def": ("name", "span"),
    "num": ("quotient",),
    "add": ("number", "number"),
    "sub": ("number", "number"),
    "mul": ("number", "number"),
    "call": ("name", "name", "number"),
    "keep": ("number", "span"),
    "done": (),
    "end": (),
}
OPEN_ENDED = ("def", "call")


def unit_text(unit):
    """The unit as a string, rows joined by newlines."""
    name, functions = unit
    rows = ["unit " + name]
    for function in functions:
        rows.extend(function_rows(function))
    return "\n".join(rows + ["end"])


def function_rows(function):
    """The list of the rows of a function, from def to done."""
    name, box, lines, keeps = function
    rows = [f"def {name} " + box_line(box)]
    rows.extend([row_of_line(line) for line in lines])
    rows.extend([f"keep {place} " + span_word(span) for place, span in keeps])
    return rows + ["done"]


def row_of_line(line):
    """A line of a function as a row."""
    if line[0] != "call":
        return line_words(line)
    _, unit, function, places = line
    return " ".join(["call", unit, function] + [str(place) for place in places])


def read_unit(text):
    """The unit that has this text, a string; InvalidText(line, field) for the first row that does not fit."""
    ask_text(text)
    rows = text.split("\n")
    reader = UnitReader()
    for at in range(len(rows)):
        reader.take(at, rows[at].split(" "))
    if reader.last != "end":
        raise InvalidText(len(rows), 0)
    return (reader.name, tuple(reader.functions))


class UnitReader:
    """What has been read of a unit, and which row was the last."""

    def __init__(self):
        self.last = ""
        self.name = ""
        self.functions = []
        self.heading = ("", ())
        self.lines = []
        self.keeps = []

    def take(self, at, fields):
        """Reads the next row, which has number at, from its fields."""
        word = fields[0]
        if word not in BEHIND[self.last]:
            raise InvalidText(at, 0)
        values = row_values(at, fields, SORTS[word], word in OPEN_ENDED)
        if not self.in_sequence(word, values):
            raise InvalidText(at, 0)
        self.store(word, values)
        self.last = "line" if word in LINE_WORDS else word

    def places(self):
        """How many places the function that is being read has so far."""
        return len(self.heading[1]) + len(self.lines)

    def in_sequence(self, word, values):
        """True if places are earlier ones, and names and kept places ascend."""
        if word == "def":
            return not self.functions or self.functions[-1][0] < values[0]
        if word == "keep":
            return values[0] < self.places() and (not self.keeps or self.keeps[-1][0] < values[0])
        return all([place < self.places() for place in handed_places(word, values)])

    def store(self, word, values):
        """Adds the row to what has been read."""
        if word == "unit":
            self.name = values[0]
        elif word == "def":
            self.heading = (values[0], tuple(values[1:]))
            self.lines = []
            self.keeps = []
        elif word == "keep":
            self.keeps.append(tuple(values))
        elif word == "call":
            self.lines.append((word, values[0], values[1], tuple(values[2:])))
        elif word in LINE_WORDS:
            self.lines.append((word, *values))
        elif word == "done":
            name, box = self.heading
            self.functions.append((name, box, tuple(self.lines), tuple(self.keeps)))


def handed_places(word, values):
    """The places that a line with this word reads or hands, () for another row."""
    if word == "call":
        return values[2:]
    return values if word in ("add", "sub", "mul") else []
