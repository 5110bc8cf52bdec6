"""Forms written as texts of one row, and read."""

from sevenruns.asking import ask_text
from sevenruns.errors import InvalidText
from sevenruns.plaintexts import quotient_word
from sevenruns.reckoning import NOUGHT
from sevenruns.words import number_in, quotient_in


def form_line(form):
    """The size, a colon, and the terms joined by plus signs; 0 for nought."""
    size, terms = form
    return f"{size}: " + (" + ".join([term_words(bundle, own) for bundle, own in terms]) if terms else "0")


def term_words(bundle, quotient):
    """The quotient of a term and its inputs, joined by blanks."""
    return " ".join([quotient_word(quotient)] + [f"x{which}" for which in bundle])


def read_form(text):
    """The form that has this line; InvalidText(0, field) if none has."""
    ask_text(text)
    return form_in(text.split(" "), 0)


def form_in(fields, start):
    """The form that the fields from start on tell; InvalidText(0, field) if they tell none."""
    at = start + 1
    size = number_in(fields[start].removesuffix(":")) if start < len(fields) else None
    if size is None or size < 1 or not fields[start].endswith(":"):
        raise InvalidText(0, start)
    if at < len(fields) and fields[at] == "0":
        if at + 1 < len(fields):
            raise InvalidText(0, at + 1)
        return (size, ())
    terms = []
    while at < len(fields):
        term, at = read_term(fields, at, size, terms)
        terms.append(term)
        at += 1
    # A plus sign promises one more term, as the colon does; without one, at is behind the end.
    if at == len(fields):
        raise InvalidText(0, at)
    return (size, tuple(terms))


def read_term(fields, at, size, terms):
    """The term that begins with field at, behind these terms, and the field behind it."""
    quotient = quotient_in(fields[at])
    if quotient is None or quotient == NOUGHT:
        raise InvalidText(0, at)
    before = terms[-1][0] if terms else None
    bundle = ()
    at += 1
    while at < len(fields) and fields[at] != "+":
        bundle = with_input(bundle, fields[at], size)
        if bundle is None or not can_follow(before, bundle):
            raise InvalidText(0, at)
        at += 1
    # As long as the bundle only begins as the one before does, it has to go on.
    if before is not None and bundle <= before:
        raise InvalidText(0, at)
    return (bundle, quotient), at


def with_input(bundle, field, size):
    """The bundle with the input that the field tells, None if the field tells none that can come there."""
    which = number_in(field.removeprefix("x"))
    if not field.startswith("x") or which is None or which >= size:
        return None
    if bundle and which < bundle[-1]:
        return None
    return bundle + (which,)


def can_follow(before, start):
    """True if some bundle that begins with start can stand behind the bundle before."""
    return before is None or start > before or start == before[:len(start)]
