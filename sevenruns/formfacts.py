"""Facts of forms: their inputs, their degree, their quotients."""

from sevenruns.asking import ask, ask_input
from sevenruns.errors import Bent
from sevenruns.formmaking import quotient_at
from sevenruns.things import is_bundle


def hangs_on(form):
    """The lot of the inputs on which the form hangs."""
    return tuple(sorted({which for bundle, _ in form[1] for which in bundle}))


def degree_in(form, which):
    """How often which stands in one of the form's bundles at most, 0 if in none."""
    ask_input(form[0], which)
    return max([bundle.count(which) for bundle, _ in form[1]], default=0)


def is_first(form):
    """True if the form is of first degree, else False."""
    return bent_input(form) is None


def coefficient(form, bundle):
    """The quotient that belongs to the bundle, nought if the form does not have it."""
    ask(is_bundle(form[0], bundle), "bundle")
    return quotient_at(form, bundle)


def bent_input(form):
    """The least input that a bundle of the form has twice, None if the form is of first degree."""
    bundles = [bundle for bundle, _ in form[1]]
    return min([low for b in bundles for low, high in zip(b, b[1:]) if low == high], default=None)


def ask_first(form):
    """Raises Bent unless the form is of first degree."""
    which = bent_input(form)
    if which is not None:
        raise Bent(which)
