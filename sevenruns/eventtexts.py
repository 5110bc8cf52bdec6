"""Events and logs written as texts, and read."""

from sevenruns.asking import ask, ask_text
from sevenruns.errors import InvalidText
from sevenruns.liveevents import is_event, is_log
from sevenruns.plaintexts import span_word
from sevenruns.rowfields import row_values
from sevenruns.unittexts import UnitReader, function_rows, unit_text

# The sorts of the fields behind the first word of an event's first row.
EVENT_SORTS = {
    "put": (),
    "drop": ("name",),
    "define": ("name",),
    "remove": ("name", "name"),
    "side": ("name", "name", "number", "span"),
    "day": (),
}


def event_text(event):
    """The event as a string, rows joined by newlines."""
    ask(is_event(event), "event")
    return text_of(event)


def log_text(log):
    """The texts of the log's events, joined by newlines."""
    ask(is_log(log), "log")
    return "\n".join([text_of(event) for event in log])


def text_of(event):
    """As event_text; nothing is checked."""
    if event[0] == "put":
        return "put\n" + unit_text(event[1])
    if event[0] == "define":
        return "\n".join([f"define {event[1]}"] + function_rows(event[2]))
    if event[0] == "side":
        _, name, function, which, span = event
        return f"side {name} {function} {which} " + span_word(span)
    return " ".join(event)


def read_event(text):
    """The event that has this text, a string; InvalidText(line, field) for the first row that does not fit."""
    ask_text(text)
    rows = text.split("\n")
    event, at = event_at(rows, 0)
    if at < len(rows):
        raise InvalidText(at, 0)
    return event


def read_log(text):
    """The log that has this text, a string; InvalidText(line, field) for the first row that does not fit."""
    ask_text(text)
    rows = text.split("\n") if text else []
    events, at = [], 0
    while at < len(rows):
        event, at = event_at(rows, at)
        events.append(event)
    return tuple(events)


def event_at(rows, at):
    """The event whose first row has number at, and the number of the row behind it."""
    event = first_row(at, rows[at].split(" "))
    if event[0] == "put":
        reader, at = read_till("end", UnitReader(), rows, at + 1)
        return ("put", (reader.name, tuple(reader.functions))), at
    if event[0] == "define":
        reader = UnitReader()
        # A function's rows are read as those of a unit, whatever its name is.
        reader.take(at, ["unit", "a"])
        reader, at = read_till("done", reader, rows, at + 1)
        return (*event, reader.functions[0]), at
    return event, at + 1


def first_row(at, fields):
    """The entries of an event that its first row tells; InvalidText for the first field that can not come there."""
    word = fields[0]
    if word not in EVENT_SORTS:
        raise InvalidText(at, 0)
    return (word, *row_values(at, fields, EVENT_SORTS[word], False))


def read_till(word, reader, rows, at):
    """The reader behind the next row with this first word, and the number of the row behind that one."""
    while reader.last != word:
        if at == len(rows):
            raise InvalidText(at, 0)
        reader.take(at, rows[at].split(" "))
        at += 1
    return reader, at
