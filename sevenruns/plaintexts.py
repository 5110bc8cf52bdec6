"""Quotients, spans, boxes and programs written as texts of one row, and read."""

from sevenruns.asking import ask_quotient, ask_text
from sevenruns.errors import InvalidText
from sevenruns.lines import LENGTHS, MOST_READS
from sevenruns.things import is_input
from sevenruns.words import number_in, quotient_in, span_in


def quotient_word(quotient):
    """The quotient as a string, such as 4 or -3/2."""
    ask_quotient(quotient)
    top, bottom = quotient
    return str(top) if bottom == 1 else f"{top}/{bottom}"


def span_word(span):
    """The ends of the span, joined by a colon."""
    return quotient_word(span[0]) + ":" + quotient_word(span[1])


def box_line(box):
    """The sides of the box, joined by blanks."""
    return " ".join([span_word(side) for side in box])


def program_line(program):
    """The size and the lines of the program, joined by semicolons and blanks."""
    size, lines = program
    return "; ".join([str(size)] + [line_words(line) for line in lines])


def line_words(line):
    """The line, all its entries joined by blanks."""
    if line[0] == "num":
        return "num " + quotient_word(line[1])
    if line[0] == "mix":
        reads = " ".join([str(place) for place in line[1]])
        return f"mix {reads} : " + " ".join([quotient_word(number) for number in line[2]])
    return f"{line[0]} {line[1]} {line[2]}"


def read_quotient(text):
    """The quotient that has this text, a string; InvalidText(0, field) if none has."""
    ask_text(text)
    fields = text.split(" ")
    quotient = quotient_in(fields[0])
    if quotient is None:
        raise InvalidText(0, 0)
    if len(fields) > 1:
        raise InvalidText(0, 1)
    return quotient


def read_box(text):
    """The box that has this text, a string; InvalidText(0, field) if none has."""
    ask_text(text)
    sides = []
    for at, field in enumerate(text.split(" ")):
        side = span_in(field)
        if side is None:
            raise InvalidText(0, at)
        sides.append(side)
    return tuple(sides)


def read_program(text):
    """The program that has this text, a string; InvalidText(0, field) if none has."""
    ask_text(text)
    fields = text.split(" ")
    size = number_in(fields[0][:-1])
    if not fields[0].endswith(";") or size is None or size < 1:
        raise InvalidText(0, 0)
    lines = []
    at = 1
    # A semicolon promises one more line, whatever has been read.
    while fields[at - 1].endswith(";"):
        line, at = read_line(fields, at, size + len(lines))
        lines.append(line)
    if at < len(fields):
        raise InvalidText(0, at)
    return (size, tuple(lines))


def read_line(fields, at, many):
    """The line whose word is field at, behind this many places, and the field behind it."""
    word = field_at(fields, at)
    if word not in LENGTHS:
        raise InvalidText(0, at)
    if word == "num":
        return (word, number_field(fields, at + 1, True)), at + 2
    if word == "mix":
        return read_mix(fields, at + 1, many)
    one = place_field(fields, at + 1, many, False)
    other = place_field(fields, at + 2, many, True)
    return (word, one, other), at + 3


def read_mix(fields, at, many):
    """The mix whose reads begin at field at, behind this many places, and the field behind it."""
    reads = []
    while not reads or field_at(fields, at) != ":":
        if len(reads) == MOST_READS:
            raise InvalidText(0, at)
        reads.append(place_field(fields, at, many, False))
        at += 1
    numbers = []
    most = 1 << len(reads)
    for k in range(most):
        numbers.append(number_field(fields, at + 1 + k, k == most - 1))
    return ("mix", tuple(reads), tuple(numbers)), at + 1 + most


def field_at(fields, at):
    """The field with this number; InvalidText if the fields end ahead of it."""
    if at >= len(fields):
        raise InvalidText(0, len(fields))
    return fields[at]


def entry_word(fields, at, last):
    """The field without the semicolon that the last one of a line may have."""
    field = field_at(fields, at)
    return field.removesuffix(";") if last else field


def place_field(fields, at, many, last):
    """The place below many that the field tells."""
    place = number_in(entry_word(fields, at, last))
    if not is_input(many, place):
        raise InvalidText(0, at)
    return place


def number_field(fields, at, last):
    """The quotient that the field tells."""
    quotient = quotient_in(entry_word(fields, at, last))
    if quotient is None:
        raise InvalidText(0, at)
    return quotient
