"""Kinds made from forms."""

from math import gcd, lcm

from sevenruns.clans import lies_in, strong_clans
from sevenruns.formfacts import bent_input, hangs_on
from sevenruns.formmaking import gathered, number_of, quotient_at, without_number
from sevenruns.reckoning import NOUGHT, divided, multiplied, reduced, taken_off


def kind_of(form):
    """The form's kind."""
    hung = hangs_on(form)
    if bent_input(form) is not None:
        return ("bent", (hung[-1] + 1, form[1]))
    if not hung:
        return ("bare", number_of(form))
    return ("first", *tree_of(form, hung, strong_clans(form)))


def tree_of(form, lot, strong):
    """The triple (base, scale, tree) of a form that hangs on the lot; in strong are all strong clans in it."""
    if len(lot) == 1:
        return (number_of(form), quotient_at(form, lot), lot[0])
    sons = sons_among(strong, lot)
    inner = [inner_form(form, son) for son in sons]
    parts = [tree_of(part, son, strong) for part, son in zip(inner, sons)]
    outer = outer_form(form, sons, inner)
    for place, (base, scale, _) in enumerate(parts):
        outer = replaced(outer, place, base, scale)
    return node_of(outer, tuple(tree for _, _, tree in parts))


def sons_among(strong, lot):
    """The ascending list of the greatest strong clans that lie in the lot and are not all of it."""
    within = [clan for clan in strong if clan != lot and lies_in(clan, lot)]
    return [clan for clan in within if not any([clan != other and lies_in(clan, other) for other in within])]


def inner_form(form, clan):
    """The form, without a number, of the clan alone; the form is one without the clan plus another times this one."""
    groups = {}
    for bundle, own in form[1]:
        inside, outside = parted(bundle, clan)
        if inside:
            groups.setdefault(outside, []).append((inside, own))
    # All groups are the same but for a number; the first one is as good as another.
    return gathered(form[0], list(groups.values())[0])


def parted(bundle, clan):
    """The pair of what the bundle has of the clan and what it has of others."""
    return tuple(e for e in bundle if e in clan), tuple(e for e in bundle if e not in clan)


def outer_form(form, sons, inner):
    """The form over places: with the inner forms in the places of its inputs it is the form."""
    leads = [part[1][0] for part in inner]
    terms = []
    for bundle, own in form[1]:
        places = []
        for place, (lead, number) in enumerate(leads):
            inside = parted(bundle, sons[place])[0]
            if inside == lead:
                places.append(place)
                own = divided(own, number)
            elif inside:
                # The inner form has this term beside its first one, which tells enough.
                own = NOUGHT
        terms.append((tuple(places), own))
    return gathered(len(sons), terms)


def replaced(form, place, base, scale):
    """The form with base plus scale times it in the place of an input."""
    terms = []
    for bundle, own in form[1]:
        if place in bundle:
            terms.append((bundle, multiplied(own, scale)))
            terms.append((tuple(entry for entry in bundle if entry != place), multiplied(own, base)))
        else:
            terms.append((bundle, own))
    return gathered(form[0], terms)


def node_of(form, trees):
    """The triple (base, scale, tree) of a form over places, in which no clan is between but unions of sons."""
    rest = without_number(form)
    bundles = [bundle for bundle, _ in rest[1]]
    if max([len(bundle) for bundle in bundles]) > 1:
        return product_of(form, trees) or knot_of(form, trees)
    scale, wholes = in_wholes([own for _, own in rest[1]])
    return (number_of(form), scale, ("sum", tuple(zip(wholes, trees))))


def product_of(form, trees):
    """As node_of, for a product; None if the form is none."""
    every = tuple(range(form[0]))
    scale = quotient_at(form, every)
    if scale == NOUGHT:
        return None
    shifts = [divided(quotient_at(form, every[:place] + every[place + 1:]), scale) for place in every]
    terms = [((), scale)]
    for place in every:
        terms = [(bundle + (place,), own) for bundle, own in terms] + [
            (bundle, multiplied(own, shifts[place])) for bundle, own in terms]
    made = gathered(form[0], terms)
    if without_number(made) != without_number(form):
        return None
    return (taken_off(number_of(form), number_of(made)), scale, ("product", tuple(zip(shifts, trees))))


def knot_of(form, trees):
    """As node_of, for a knot."""
    terms = without_number(form)[1]
    scale, wholes = in_wholes([own for _, own in terms])
    lots = [bundle for bundle, _ in terms]
    return (number_of(form), scale, ("knot", trees, tuple(zip(lots, wholes))))


def in_wholes(quotients):
    """A quotient, and a list of integers that are the quotients divided by it.

    The first integer is above 0, and together they have no common divisor above 1."""
    bottom = 1
    for quotient in quotients:
        bottom = lcm(bottom, quotient[1])
    tops = [quotient[0] * (bottom // quotient[1]) for quotient in quotients]
    shared = 0
    for top in tops:
        shared = gcd(shared, top)
    if tops[0] < 0:
        shared = -shared
    return reduced(shared, bottom), [top // shared for top in tops]
