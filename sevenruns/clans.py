"""Clans of forms of first degree.

A lot of inputs is a clan exactly if the form is a form without them plus another such
form times one of them alone. So in a clan, what stands beside each product of its
inputs is the same but for a number. Lots are told by masks here: input i by 1 << i."""

from sevenruns.asking import ask
from sevenruns.crosses import crossing
from sevenruns.formfacts import ask_first, hangs_on
from sevenruns.formmaking import whole_terms
from sevenruns.things import is_lot


def is_clan(form, lot):
    """True if the lot is a clan of the form, else False."""
    ask(is_lot(form[0], lot), "lot")
    ask_first(form)
    if not lot or not lies_in(lot, hangs_on(form)):
        return False
    return is_clan_mask(masked_terms(form), mask_of(lot))


def least_clan(form, lot):
    """The clan that holds all of the lot and lies in each clan that does."""
    ask(is_lot(form[0], lot) and len(lot) >= 1 and lies_in(lot, hangs_on(form)), "lot")
    ask_first(form)
    return ClanSearch(form).least(lot)


def clans_of(form):
    """The ascending tuple of all clans of the form."""
    ask_first(form)
    hung, terms = hangs_on(form), masked_terms(form)
    lots = [()]
    for which in hung:
        lots = lots + [lot + (which,) for lot in lots]
    return tuple(lot for lot in sorted(lots) if lot and is_clan_mask(terms, mask_of(lot)))


def strong_clans(form):
    """The ascending tuple of the clans that no other one overlaps."""
    lots = clans_of(form)
    masks = [mask_of(lot) for lot in lots]
    return tuple(lot for lot, mask in zip(lots, masks) if not any([overlap(mask, other) for other in masks]))


def lies_in(lot, other):
    """True if each entry of the lot is in the other one."""
    return all([which in other for which in lot])


def mask_of(lot):
    """The mask of the lot."""
    return sum([1 << which for which in lot])


def overlap(mask, other):
    """True if both lots have an input in common and neither lies in the other."""
    return mask & other not in (0, mask, other)


def masked_terms(form):
    """The list of the form's terms: bundles as masks, quotients times one number that makes them whole."""
    return [(mask_of(bundle), top) for bundle, top in whole_terms(form)[1]]


def is_clan_mask(terms, mask):
    """True if a lot, not (), of inputs on which the form with these terms hangs is a clan."""
    groups = {}
    for own, top in terms:
        inner = own & mask
        if inner:
            groups.setdefault(inner, []).append((own ^ inner, top))
    rows = [sorted(group) for group in groups.values()]
    return all([are_multiples(rows[0], row) for row in rows])


def are_multiples(one, other):
    """True if the terms in one are those in other, but for a number by which all are multiplied."""
    if len(one) != len(other):
        return False
    lead, base = one[0][1], other[0][1]
    return all([a[0] == b[0] and a[1] * base == b[1] * lead for a, b in zip(one, other)])


class ClanSearch:
    """A form of first degree, of which least clans are searched, and its steps at one point.

    The form is taken times a number that makes its quotients whole, and so are the steps."""

    def __init__(self, form):
        self.form = form
        self.hung = hangs_on(form)
        self.terms = masked_terms(form)
        numbers = {which: 2 * which * which + 3 for which in self.hung}
        self.firsts = {which: 0 for which in self.hung}
        self.seconds = {(one, other): 0 for one in self.hung for other in self.hung}
        for mask, top in self.terms:
            inside = [which for which in self.hung if mask >> which & 1]
            worth = top
            for which in inside:
                worth *= numbers[which]
            for which in inside:
                step = worth // numbers[which]
                self.firsts[which] += step
                for other in inside:
                    self.seconds[(which, other)] += step // numbers[other]

    def least(self, lot):
        """The clan that holds all of the lot, not (), and lies in each clan that does."""
        while not is_clan_mask(self.terms, mask_of(lot)):
            outside = [which for which in self.hung if which not in lot]
            more = [which for which in outside if self.is_told_apart(lot, which)]
            # Steps that are unlike may have one value at a point by chance, but not as forms.
            if not more:
                more = [which for which in outside if self.is_apart(lot, which)]
            lot = tuple(sorted(lot + tuple(more)))
        return lot

    def is_told_apart(self, lot, which):
        """True if the steps at the point show that each clan with all of the lot has the input which."""
        first = self.firsts[lot[0]]
        beside = self.seconds[(lot[0], which)]
        return any([first * self.seconds[(other, which)] != self.firsts[other] * beside for other in lot])

    def is_apart(self, lot, which):
        """True if the forms of the steps show it."""
        first = lot[0]
        return any([crossing(self.form, first, (other, which)) != crossing(self.form, other, (first, which))
                    for other in lot[1:]])
