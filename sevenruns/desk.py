"""A desk: texts of one row that do events to living units, or ask something of them."""

from sevenruns.asking import ask, ask_text
from sevenruns.errors import InvalidText
from sevenruns.eventtexts import first_row
from sevenruns.kindtexts import kind_line
from sevenruns.live import LiveUnits
from sevenruns.nodes import case_by
from sevenruns.plaintexts import span_word
from sevenruns.unitthings import row_named
from sevenruns.words import number_in

EVENT_WORDS = ("drop", "remove", "side", "day")

# How many fields each ask has.
ASKS = {"kind": 3, "span": 3, "case": 3, "site": 5, "keep": 4, "sound": 1, "anew": 1}


def desk_line(live, text):
    """Does what the text tells, or answers what it asks."""
    ask(isinstance(live, LiveUnits), "live")
    ask_text(text)
    fields = text.split(" ")
    if fields[0] in EVENT_WORDS:
        live.go(first_row(0, fields))
        return "done"
    ask_fields(live, fields)
    return answer(live, fields)


def ask_fields(live, fields):
    """InvalidText for the first field that can not be where it is in an ask."""
    many = ASKS[fields[0]] if fields[0] in ASKS else 0
    for at in range(len(fields)):
        if at >= many or not is_right(live, fields, at, at == many - 1):
            raise InvalidText(0, at)
    if len(fields) < many:
        raise InvalidText(0, len(fields))


def is_right(live, fields, at, last):
    """True if field at of an ask is right, those ahead of it being so; last if there is to be none behind it."""
    if at == 0:
        return True
    if at == 1:
        return row_named(live.units_now(), fields[1]) is not None
    if at == 2:
        return row_named(row_named(live.units_now(), fields[1])[1], fields[2]) is not None
    if number_in(fields[at]) is None:
        return False
    return not last or asked_word(live, fields) is not None


def asked_word(live, fields):
    """The word of the site or keep that an ask is about, None if there is none."""
    many = ASKS[fields[0]]
    asked = (fields[1], fields[2], *[number_in(field) for field in fields[3:many]])
    rows = live.sites_now() if fields[0] == "site" else live.keeps_now()
    for row in rows:
        if row[:-1] == asked:
            return row[-1]
    return None


def answer(live, fields):
    """The answer to an ask whose fields are right."""
    word = fields[0]
    if word == "sound":
        return "yes" if live.sound_now() else "no"
    if word == "anew":
        return "; ".join([f"{unit} {function}" for unit, function in live.anew()]) or "-"
    if word in ("site", "keep"):
        return asked_word(live, fields)
    return kind_answer(live, word, fields[1], fields[2])


def kind_answer(live, word, unit, function):
    """The answer to an ask about the kind of a function."""
    kind = live.kind_now(unit, function)
    if kind is None:
        return "open"
    if word == "kind":
        return kind_line(kind)
    if word == "case":
        return case_by(kind)
    return "bent" if kind[0] == "bent" else span_word(live.span_now(unit, function))
