"""Units that are asked for their kinds, spans, sites and keeps."""

from sevenruns.asking import ask
from sevenruns.edits import changed_kinds
from sevenruns.kindspans import span_by
from sevenruns.sites import are_sound, keep_rows, site_rows
from sevenruns.unitkinds import kind_table
from sevenruns.unitlinks import ask_linked, ask_not_open
from sevenruns.unitthings import function_in, is_units


class LiveAsks:
    """Answers for units that stay."""

    def __init__(self, units):
        ask(is_units(units), "units")
        ask_linked(units)
        # The units at the start and behind each event of the log. What is known of them
        # comes when it is asked for: the tables of their kinds, and what was made anew.
        self._states = [units]
        self._tables = []
        self._anew = []

    def units_now(self):
        """The units as they are now."""
        return self._states[-1]

    def kind_now(self, unit, function):
        """The kind of this function, None if it is open."""
        function_in(self.units_now(), unit, function)
        return self.table_now()[(unit, function)]

    def span_now(self, unit, function):
        """The span of the values of this function on its box."""
        own = function_in(self.units_now(), unit, function)
        ask_not_open(self.units_now(), unit, function)
        return span_by(self.kind_now(unit, function), own[1])

    def sites_now(self):
        """The rows of all sites, judged."""
        return site_rows(self.units_now(), self.table_now())

    def keeps_now(self):
        """The rows of all keeps, judged."""
        return keep_rows(self.units_now(), self.table_now())

    def sound_now(self):
        """True if nothing is missing and all sites and keeps are judged always."""
        return are_sound(self.units_now(), self.table_now())

    def anew(self):
        """What the last event made anew, () without one."""
        self.table_now()
        return self._anew[-1]

    def anew_counts(self):
        """For each event how many functions it made anew."""
        self.table_now()
        return tuple(len(pairs) for pairs in self._anew[1:])

    def table_now(self):
        """The table of the kinds of the units as they are now."""
        if not self._tables:
            self._tables.append(kind_table(self._states[0]))
            self._anew.append(())
        while len(self._tables) < len(self._states):
            k = len(self._tables)
            table, pairs = changed_kinds(self._states[k - 1], self._tables[k - 1], self._states[k])
            self._tables.append(table)
            self._anew.append(pairs)
        return self._tables[-1]
