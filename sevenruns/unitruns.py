"""Functions of units run at a point."""

from sevenruns.asking import ask_point
from sevenruns.lines import reads_of
from sevenruns.runs import line_value
from sevenruns.spans import holds
from sevenruns.unitlinks import ask_linked, ask_not_open, function_table
from sevenruns.unitthings import function_in


def run_function(units, unit, function, point):
    """The function's value at the point, also outside of its box and of callees' sides."""
    ask_run(units, unit, function, point)
    return UnitRun(units).value((unit, function), point)


def out_of_sides(units, unit, function, point):
    """The ascending tuple of the functions that are called on the way with a value that the side does not hold."""
    ask_run(units, unit, function, point)
    run = UnitRun(units)
    run.value((unit, function), point)
    return tuple(sorted(run.outside))


def ask_run(units, unit, function, point):
    """Refuses what cannot be run at the point."""
    own = function_in(units, unit, function)
    ask_point(len(own[1]), point)
    ask_linked(units)
    ask_not_open(units, unit, function)


class UnitRun:
    """Functions run, their values kept, and which of them were handed a value that a side does not hold."""

    def __init__(self, units):
        self.functions = function_table(units)
        self.known = {}
        self.outside = {}

    def value(self, pair, point):
        """The value of the function at the point."""
        # A function may be called at the same point many times, over others.
        if (pair, point) in self.known:
            return self.known[(pair, point)]
        values = list(point)
        for line in self.functions[pair][2]:
            if line[0] == "call":
                callee, handed = (line[1], line[2]), tuple(values[place] for place in line[3])
                self.watch(callee, handed)
                values.append(self.value(callee, handed))
            else:
                values.append(line_value(line, [values[place] for place in reads_of(line)]))
        self.known[(pair, point)] = values[-1]
        return values[-1]

    def watch(self, callee, handed):
        """Keeps the callee in mind if a side of it does not hold what is handed."""
        sides = self.functions[callee][1]
        if not all([holds(side, entry) for side, entry in zip(sides, handed)]):
            self.outside[callee] = True
