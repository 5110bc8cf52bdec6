"""Kinds put in the places of a kind's inputs, and inputs renamed or given a quotient."""

from sevenruns.asking import ask, ask_input, ask_quotient
from sevenruns.formmaking import gathered
from sevenruns.formruns import form_at
from sevenruns.grafting import ask_kinds, graft, meeting_input
from sevenruns.kindforms import kind_over
from sevenruns.kindmaking import kind_of
from sevenruns.kindthings import least_size, lot_of
from sevenruns.lettering import Lettering, shared_inputs
from sevenruns.parts import input_part
from sevenruns.things import are_inputs
from sevenruns.trees import MOST_INPUTS


def called(kind, kinds):
    """The kind of the value of kind if each input i has the value of kinds[i]."""
    ask_kinds(kind, kinds)
    return kind_called(kind, kinds)


def kind_called(kind, kinds):
    """As called; nothing is checked."""
    lot = lot_of(kind)
    if kind[0] != "bent" and meeting_input(kind, kinds) is None:
        return graft(kind, kinds)
    handed = [kinds[which] for which in lot]
    lettering = Lettering(handed, shared_inputs(handed))
    forms = {which: lettering.kind_form(kinds[which]) for which in lot}
    return lettering.kind_told(kind_over(kind, lettering.size, forms))


def renamed_kind(kind, places):
    """The kind in which each input i is called places[i]."""
    right = are_inputs(MOST_INPUTS, places) and len(set(places)) == len(places) and len(places) >= least_size(kind)
    ask(right, "places")
    if kind[0] != "bent":
        return graft(kind, [("first", *input_part(place)) for place in places])
    terms = [(tuple(sorted([places[which] for which in bundle])), own) for bundle, own in kind[1][1]]
    return kind_of(gathered(MOST_INPUTS, terms))


def fixed_kind(kind, which, quotient):
    """The kind of the value of kind with the quotient in the place of the input which."""
    ask_input(MOST_INPUTS, which)
    ask_quotient(quotient)
    if which not in lot_of(kind):
        return kind
    lettering = Lettering((kind,), (which,))
    form = lettering.kind_form(kind)
    return lettering.kind_told(form_at(form, lettering.numbers[(which,)], quotient))
