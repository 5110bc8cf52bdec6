"""Codes as objects."""

from sevenruns.asking import ask
from sevenruns.codethings import is_code
from sevenruns.machine import run_code, trace_code
from sevenruns.widths import guards_of


class Machine:
    """The code, to be run."""

    def __init__(self, code):
        ask(is_code(code), "code")
        self._code = code

    def run(self, point):
        """The value of the code at the point."""
        return run_code(self._code, point)

    def trace(self, point):
        """The tuple of the values of the rows ahead of the first that does not fit."""
        return trace_code(self._code, point)

    def widths(self):
        """The tuple of the widths of all rows."""
        return tuple(row[3] for row in self._code[2])

    def guards(self, width):
        """The lot of the rows whose width is above this one."""
        return guards_of(self._code, width)

    def told(self):
        """The code, a tuple."""
        return self._code

    def __eq__(self, other):
        return isinstance(other, Machine) and self._code == other._code
