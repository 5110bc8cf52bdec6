"""Forms made from kinds."""

from sevenruns.asking import ask
from sevenruns.formmaking import form_multiple, form_product, form_sum, gathered, number_form, place_form
from sevenruns.kindthings import least_size
from sevenruns.reckoning import ONE
from sevenruns.things import is_integer


def form_by(kind, size):
    """The form of this size with the kind's value at all points."""
    ask_size(kind, size)
    if kind[0] == "bare":
        return number_form(size, kind[1])
    if kind[0] == "bent":
        return (size, kind[1][1])
    _, base, scale, tree = kind
    return form_sum(number_form(size, base), form_multiple(tree_form(tree, size), scale))


def ask_size(kind, size):
    """Refuses size unless it is an integer above 0 and above all inputs of the kind."""
    ask(is_integer(size) and size >= 1 and size >= least_size(kind), "size")


def tree_form(tree, size):
    """The form of this size with the tree's value at all points."""
    if not isinstance(tree, tuple):
        return place_form(size, tree)
    if tree[0] == "sum":
        return form_total(size, [form_multiple(tree_form(son, size), (whole, 1)) for whole, son in tree[1]])
    if tree[0] == "product":
        rows = [(number_form(size, shift), tree_form(son, size)) for shift, son in tree[1]]
        return form_multiples(size, [form_sum(number, form) for number, form in rows])
    forms = [tree_form(son, size) for son in tree[1]]
    return form_total(size, [form_multiple(form_multiples(size, [forms[place] for place in lot]), (whole, 1))
                             for lot, whole in tree[2]])


def form_total(size, forms):
    """All forms, added."""
    return gathered(size, [term for form in forms for term in form[1]])


def form_multiples(size, forms):
    """The product of all forms."""
    found = number_form(size, ONE)
    for form in forms:
        found = form_product(found, form)
    return found
