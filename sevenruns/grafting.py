"""Kinds put in the places of a kind's inputs, where no two have an input in common."""

from sevenruns.asking import ask
from sevenruns.errors import NotUsable
from sevenruns.kindthings import ask_first_kind, is_kind, least_size, lot_of
from sevenruns.parts import planted_kind


def grafted(kind, kinds):
    """The kind of the value of kind, bare or first, if each input i has the value of kinds[i]."""
    ask_kinds(kind, kinds)
    which = meeting_input(kind, kinds)
    if which is not None:
        raise NotUsable("kinds", which)
    ask_first_kind(kind)
    return graft(kind, kinds)


def graft(kind, kinds):
    """As grafted; nothing is checked."""
    return kind if kind[0] == "bare" else planted_kind(kind, {which: kinds[which][1:] for which in lot_of(kind)})


def ask_kinds(kind, kinds):
    """Refuses kinds unless it is a tuple of kinds with one for each input in kind."""
    right = isinstance(kinds, tuple) and len(kinds) >= least_size(kind) and all([is_kind(entry) for entry in kinds])
    ask(right, "kinds")


def meeting_input(kind, kinds):
    """The least input of kind whose entry in kinds is not first or meets that of a lesser one, None without one."""
    met = {}
    for which in lot_of(kind):
        inputs = lot_of(kinds[which])
        if kinds[which][0] != "first" or any([entry in met for entry in inputs]):
            return which
        for entry in inputs:
            met[entry] = True
    return None
