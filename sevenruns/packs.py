"""Packs: units beside the kinds of their functions."""

from sevenruns.asking import ask
from sevenruns.things import is_integer, is_pair
from sevenruns.unitkinds import kinds_of
from sevenruns.unitlinks import misfits_in, rings_in
from sevenruns.unitthings import by_names, is_units


def is_pack(thing):
    """True if thing, any value, is a pack, else False."""
    if not is_pair(thing) or not is_units(thing[0]) or rings_in(thing[0]) or misfits_in(thing[0]):
        return False
    return are_alike(thing[1], kinds_of(thing[0]))


def pack_of(units):
    """The pack of the units."""
    return (units, kinds_of(units))


def joined(one, other):
    """The pack of all units of both packs."""
    ask(is_pack(other) and not have_name_in_common(one[0], other[0]), "other")
    return pack_of(by_names(one[0] + other[0]))


def have_name_in_common(units, other):
    """True if some name is that of a unit in both."""
    names = [unit[0] for unit in units]
    return any([unit[0] in names for unit in other])


def are_alike(thing, value):
    """True if thing, any value, is the same as a value of tuples, integers, strings and None; True is not 1."""
    if isinstance(value, tuple):
        if not isinstance(thing, tuple) or len(thing) != len(value):
            return False
        return all([are_alike(entry, own) for entry, own in zip(thing, value)])
    return thing == value and is_integer(thing) == is_integer(value)
