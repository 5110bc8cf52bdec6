"""Checks: what they are, and whether they hold of the values of a kind on a box."""

from sevenruns.asking import ask, ask_quotient
from sevenruns.kindspans import span_by
from sevenruns.kindthings import ask_kind_box
from sevenruns.reckoning import is_less
from sevenruns.spans import holds, spans_apart
from sevenruns.things import is_pair, is_quotient, is_span

QUOTIENT_WORDS = ("below", "above", "is")


def is_check(thing):
    """True if thing, any value, is a check, else False."""
    if not is_pair(thing):
        return False
    if thing[0] == "inside":
        return is_span(thing[1])
    return thing[0] in QUOTIENT_WORDS and is_quotient(thing[1])


def check_holds(check, quotient):
    """True if the check holds of the quotient, else False."""
    ask_quotient(quotient)
    word, limit = check
    if word == "inside":
        return holds(limit, quotient)
    if word == "below":
        return is_less(quotient, limit)
    return is_less(limit, quotient) if word == "above" else quotient == limit


def judged(kind, box, check):
    """Whether the check holds of the kind's values at the points of the box: always, never or sometimes."""
    ask_judged(kind, box, check)
    return word_of(check, span_by(kind, box))


def ask_judged(kind, box, check):
    """Refuses box, then check."""
    ask_kind_box(kind, box)
    ask(is_check(check), "check")


def word_of(check, span):
    """Whether the check holds of what the span holds: always, never or sometimes."""
    if always_holds(check, span):
        return "always"
    return "never" if never_holds(check, span) else "sometimes"


def always_holds(check, span):
    """True if the check holds of all that the span holds."""
    # What a check holds of lies together, so the ends are enough.
    return check_holds(check, span[0]) and check_holds(check, span[1])


def never_holds(check, span):
    """True if the check holds of nothing that the span holds."""
    if check[0] == "inside":
        return spans_apart(check[1], span)
    if check[0] == "is":
        return not holds(span, check[1])
    return not check_holds(check, span[0]) and not check_holds(check, span[1])
