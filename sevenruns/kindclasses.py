"""Kinds as objects."""

from sevenruns.asking import ask
from sevenruns.clans import clans_of
from sevenruns.forms import is_form
from sevenruns.kindmaking import kind_of
from sevenruns.kindtexts import kind_line
from sevenruns.kindthings import value_by
from sevenruns.nodes import breadth_by, case_by


class Kind:
    """The kind of the form."""

    def __init__(self, form):
        ask(is_form(form), "form")
        self._form = form
        self._kind = kind_of(form)

    def told(self):
        """The kind, a tuple."""
        return self._kind

    def case(self):
        """The case of the kind."""
        return case_by(self._kind)

    def breadth(self):
        """The breadth of the kind."""
        return breadth_by(self._kind)

    def clans(self):
        """The ascending tuple of all clans of the form."""
        return clans_of(self._form)

    def at(self, point):
        """The kind's value at the point."""
        return value_by(self._kind, point)

    def line(self):
        """The kind as a string."""
        return kind_line(self._kind)

    def __eq__(self, other):
        return isinstance(other, Kind) and self._kind == other._kind
