"""Forms written as texts of one row, and read."""

from sevenruns.asking import ask_text
from sevenruns.errors import InvalidText
from sevenruns.plaintexts import quotient_word
from sevenruns.reckoning import NOUGHT
from sevenruns.words import number_in, quotient_in


def form_line(form):
    """The size, a colon, and the terms joined by plus signs; 0 for nought."""
    size, terms = form
    return f"{size}: " + (" + ".join([term_words(bundle, own) for bundle, own in terms]) if terms else "0")


def term_words(bundle, quotient):
    """The quotient of a term and its inputs, joined by blanks."""
    return " ".join([quotient_word(quotient)] + [f"x{which}" for which in bundle])


def read_form(text):
    """The form that has this line; InvalidText(0, field) if none has."""
    ask_text(text)
    fields = text.split(" ")
    size = number_in(fields[0].removesuffix(":"))
    if not fields[0].endswith(":") or size is None or size < 1:
        raise InvalidText(0, 0)
    if len(fields) >= 2 and fields[1] == "0":
        if len(fields) > 2:
            raise InvalidText(0, 2)
        return (size, ())
    terms = []
    at = 1
    while at < len(fields):
        term, at = read_term(fields, at, size, terms)
        terms.append(term)
        at += 1
    # A plus sign promises one more term, as the colon does; without one, at is behind the end.
    if at == len(fields):
        raise InvalidText(0, at)
    return (size, tuple(terms))


def read_term(fields, at, size, terms):
    """The term that begins with field at, behind these terms, and the field behind it."""
    quotient = quotient_in(fields[at])
    if quotient is None or quotient == NOUGHT:
        raise InvalidText(0, at)
    before = terms[-1][0] if terms else None
    bundle = ()
    at += 1
    while at < len(fields) and fields[at] != "+":
        bundle = with_input(bundle, fields[at], size)
        if bundle is None or not can_follow(before, bundle):
            raise InvalidText(0, at)
        at += 1
    # As long as the bundle only begins as the one before does, it has to go on.
    if before is not None and bundle <= before:
        raise InvalidText(0, at)
    return (bundle, quotient), at


def with_input(bundle, field, size):
    """The bundle with the input that the field tells, None if the field tells none that can come there."""
    which = number_in(field.removeprefix("x"))
    if not field.startswith("x") or which is None or which >= size:
        return None
    if bundle and which < bundle[-1]:
        return None
    return bundle + (which,)


def can_follow(before, start):
    """True if some bundle that begins with start can stand behind the bundle before."""
    return before is None or start > before or start == before[:len(start)]
