"""Units that fit together, as objects."""

from sevenruns.asking import ask
from sevenruns.sites import all_sound, keeps_of, sites_of
from sevenruns.unitkinds import kind_table
from sevenruns.unitlinks import ask_linked
from sevenruns.unitruns import run_function
from sevenruns.unitthings import function_in, is_unit, is_units, with_row


class Linked:
    """Units without a ring and without a misfit."""

    def __init__(self, units):
        ask(is_units(units), "units")
        ask_linked(units)
        self._units = units

    def kind(self, unit, function):
        """The function's kind, None if it is open."""
        function_in(self._units, unit, function)
        return kind_table(self._units)[(unit, function)]

    def run(self, unit, function, point):
        """The function's value at the point."""
        return run_function(self._units, unit, function, point)

    def sites(self):
        """The rows of all sites, judged."""
        return sites_of(self._units)

    def keeps(self):
        """The rows of all keeps, judged."""
        return keeps_of(self._units)

    def sound(self):
        """True if nothing is missing and all sites and keeps are judged always."""
        return all_sound(self._units)

    def with_unit(self, unit):
        """A new Linked with the unit added, or in the place of that of its name."""
        ask(is_unit(unit), "unit")
        return Linked(with_row(self._units, unit))

    def told(self):
        """The units."""
        return self._units

    def __eq__(self, other):
        return isinstance(other, Linked) and self._units == other._units
