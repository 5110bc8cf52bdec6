"""Forms as objects."""

from sevenruns.asking import ask
from sevenruns.formfacts import hangs_on, is_first
from sevenruns.formmaking import form_product, form_sum
from sevenruns.formruns import value_of
from sevenruns.forms import form_from
from sevenruns.things import is_integer


class Form:
    """The form of this size that is all these terms, added."""

    def __init__(self, size, *terms):
        ask(is_integer(size) and size >= 1, "size")
        self._form = form_from(size, *terms)

    def plus(self, other):
        """A new Form, the sum."""
        ask_beside(self, other)
        size, terms = form_sum(self.told(), other.told())
        return Form(size, *terms)

    def times(self, other):
        """A new Form, the product, multiplied out."""
        ask_beside(self, other)
        size, terms = form_product(self.told(), other.told())
        return Form(size, *terms)

    def at(self, point):
        """The form's value at the point."""
        return value_of(self._form, point)

    def hangs(self):
        """The lot of the inputs on which the form hangs."""
        return hangs_on(self._form)

    def first(self):
        """True if the form is of first degree, else False."""
        return is_first(self._form)

    def told(self):
        """The form, a pair."""
        return self._form

    def __eq__(self, other):
        return isinstance(other, Form) and self._form == other._form


def ask_beside(one, other):
    """Refuses other unless it is a Form of the same size as the Form one."""
    ask(isinstance(other, Form) and other.told()[0] == one.told()[0], "other")
