"""Programs as objects."""

from sevenruns.asking import ask
from sevenruns.errors import NotUsable
from sevenruns.lines import line_fault
from sevenruns.programs import breadth_of
from sevenruns.runs import run_of
from sevenruns.things import is_integer


class Program:
    """The program with this size and these lines."""

    def __init__(self, size, *lines):
        ask(is_integer(size) and size >= 1, "size")
        ask(len(lines) >= 1, "lines")
        for k in range(len(lines)):
            if line_fault(lines[k], size + k) is not None:
                raise NotUsable("lines", k)
        self._pair = (size, lines)

    def run(self, point):
        """The value of the result at point."""
        return run_of(self._pair, point)

    def breadth(self):
        """The breadth of the program."""
        return breadth_of(self._pair)

    def then(self, line):
        """A new Program with this line behind the others."""
        size, lines = self._pair
        ask(line_fault(line, size + len(lines)) is None, "line")
        more = lines + (line,)
        return Program(size, *more)

    def told(self):
        """The pair of the size and the lines."""
        return self._pair

    def __len__(self):
        return len(self._pair[1])

    def __eq__(self, other):
        return isinstance(other, Program) and self._pair == other._pair
