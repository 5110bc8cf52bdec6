"""Linked parts of forms of first degree."""

from sevenruns.asking import ask
from sevenruns.formfacts import ask_first, hangs_on
from sevenruns.formmaking import ratio_of, without_number
from sevenruns.forms import is_other_form
from sevenruns.things import is_lot


def linked_parts(form):
    """The ascending tuple of the linked parts, () for a bare form."""
    ask_first(form)
    return parts_in(form)


def part_of(form, lot):
    """The form, of the same size, of the linked part lot."""
    ask(is_lot(form[0], lot), "lot")
    ask_first(form)
    ask(lot in parts_in(form), "lot")
    return part_form(form, lot)


def factor_between(form, other):
    """The quotient c such that form less c times other is bare; None without one, or if one of the two is bare."""
    ask(is_other_form(form, other), "other")
    ask_first(form)
    ask_first(other)
    return factor_of(form, other)


def parts_in(form):
    """As linked_parts, for a form that is known to be of first degree."""
    parts = [(which,) for which in hangs_on(form)]
    for bundle, _ in form[1]:
        # Inputs of one bundle are linked, for no other term can take this one away.
        met = [part for part in parts if any([which in bundle for which in part])]
        parts = [part for part in parts if part not in met]
        if met:
            parts.append(tuple(sorted([which for part in met for which in part])))
    return tuple(sorted(parts))


def part_form(form, lot):
    """The form of the linked part lot, which is known to be one."""
    return (form[0], tuple((bundle, own) for bundle, own in form[1] if bundle and bundle[0] in lot))


def factor_of(form, other):
    """As factor_between; nothing is checked."""
    return ratio_of(without_number(form), without_number(other))
