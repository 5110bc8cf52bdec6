"""Forms made from terms that are known to be such: nothing is checked here."""

from math import lcm

from sevenruns.reckoning import NOUGHT, ONE, added, divided, multiplied, negated, reduced


def gathered(size, terms):
    """The form of all terms, added; their bundles are in non-descending sequence."""
    table = {}
    for bundle, quotient in terms:
        table[bundle] = added(table.get(bundle, NOUGHT), quotient)
    return (size, tuple((bundle, table[bundle]) for bundle in sorted(table) if table[bundle] != NOUGHT))


def number_form(size, quotient):
    """The form that has this quotient as its value everywhere."""
    return gathered(size, [((), quotient)])


def place_form(size, which):
    """The form that has the input which as its value."""
    return (size, (((which,), ONE),))


def form_sum(one, other):
    """One plus other."""
    return gathered(one[0], one[1] + other[1])


def form_negated(form):
    """The form with its sign changed."""
    return (form[0], tuple((bundle, negated(quotient)) for bundle, quotient in form[1]))


def form_multiple(form, quotient):
    """The form times the quotient."""
    if quotient == NOUGHT:
        return (form[0], ())
    return (form[0], tuple((bundle, multiplied(own, quotient)) for bundle, own in form[1]))


def whole_terms(form):
    """The least common bottom of the form's quotients, and the list of its terms times it."""
    bottom = 1
    for _, quotient in form[1]:
        bottom = lcm(bottom, quotient[1])
    return bottom, [(bundle, quotient[0] * (bottom // quotient[1])) for bundle, quotient in form[1]]


def form_product(one, other):
    """One times other, multiplied out."""
    # Whole tops are added faster than quotients, and there may be many of them.
    low, rows = whole_terms(one)
    base, columns = whole_terms(other)
    table = {}
    for bundle, top in rows:
        for beside, factor in columns:
            joined = tuple(sorted(bundle + beside))
            table[joined] = table.get(joined, 0) + top * factor
    held = [bundle for bundle in sorted(table) if table[bundle] != 0]
    return (one[0], tuple((bundle, reduced(table[bundle], low * base)) for bundle in held))


def quotient_at(form, bundle):
    """The quotient that belongs to the bundle, nought if the form does not have it."""
    for own, quotient in form[1]:
        if own == bundle:
            return quotient
    return NOUGHT


def number_of(form):
    """The form's number."""
    return quotient_at(form, ())


def without_number(form):
    """The form less its number."""
    return (form[0], tuple(term for term in form[1] if term[0] != ()))


def form_difference(one, other):
    """One less other."""
    return form_sum(one, form_negated(other))


def ratio_of(one, other):
    """The quotient c such that one is c times other; None without one, or if one of the two is nought."""
    mine, yours = one[1], other[1]
    if not mine or [bundle for bundle, _ in mine] != [bundle for bundle, _ in yours]:
        return None
    ratio = divided(mine[0][1], yours[0][1])
    for (_, own), (_, beside) in zip(mine, yours):
        if own != multiplied(ratio, beside):
            return None
    return ratio
