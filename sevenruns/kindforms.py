"""Forms made from kinds."""

from sevenruns.asking import ask
from sevenruns.formmaking import form_multiple, form_product, form_sum, gathered, number_form, place_form
from sevenruns.kindthings import least_size, lot_of
from sevenruns.reckoning import ONE
from sevenruns.things import is_integer
from sevenruns.trees import places_form


def form_by(kind, size):
    """The form of this size with the kind's value at all points."""
    ask_size(kind, size)
    return kind_over(kind, size, {which: place_form(size, which) for which in lot_of(kind)})


def ask_size(kind, size):
    """Refuses size unless it is an integer above 0 and above all inputs of the kind."""
    ask(is_integer(size) and size >= 1 and size >= least_size(kind), "size")


def kind_over(kind, size, forms):
    """The form of this size with the kind's value if its inputs have those of forms, a dict from inputs to forms."""
    if kind[0] == "bare":
        return number_form(size, kind[1])
    if kind[0] == "bent":
        return form_over(kind[1], size, forms)
    _, base, scale, tree = kind
    return form_sum(number_form(size, base), form_multiple(tree_over(tree, size, forms), scale))


def form_over(form, size, forms):
    """As kind_over, for a form."""
    return form_total(size, [form_multiple(form_multiples(size, [forms[which] for which in bundle]), own)
                             for bundle, own in form[1]])


def tree_over(tree, size, forms):
    """As kind_over, for a tree."""
    if not isinstance(tree, tuple):
        return forms[tree]
    if tree[0] == "knot":
        sons = {place: tree_over(son, size, forms) for place, son in enumerate(tree[1])}
        return form_over(places_form(tree), size, sons)
    sons = [tree_over(son, size, forms) for _, son in tree[1]]
    if tree[0] == "sum":
        return form_total(size, [form_multiple(form, (whole, 1)) for (whole, _), form in zip(tree[1], sons)])
    return form_multiples(size, [form_sum(number_form(size, shift), form) for (shift, _), form in zip(tree[1], sons)])


def form_total(size, forms):
    """All forms, added."""
    return gathered(size, [term for form in forms for term in form[1]])


def form_multiples(size, forms):
    """The product of all forms."""
    found = number_form(size, ONE)
    for form in forms:
        found = form_product(found, form)
    return found
