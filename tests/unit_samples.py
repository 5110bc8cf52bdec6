"""Units written by hand and others, and slow ways to tell what is true of them."""

from sevenruns.programs import degrees_of
from tests.samples import Q0, Q1, Q2, UNIT, frac, random_box, random_number

WIDE_SIDE = ((-2, 1), (3, 1))


def fun(name, many, *lines, keeps=(), side=UNIT):
    """A function of so many inputs, each with this side."""
    return (name, (side,) * many, lines, keeps)


def unit(name, *functions):
    return (name, tuple(sorted(functions)))


def units(*rows):
    return tuple(sorted(rows))


VALVE = ("valve", (("flow", (UNIT, UNIT), (("sub", 0, 1),), ()),))
LINES = (("add", 0, 1), ("call", "valve", "flow", (2, 1)))
LEVEL = ("tank", (("level", (UNIT, UNIT), LINES, ((2, UNIT), (3, UNIT))),))
UNITS = (LEVEL, VALVE)
PUMP = ("pump", (("flow", (UNIT, UNIT), (("mul", 0, 1),), ()),))
POOL = ("pool", (("level", (UNIT, UNIT), (("call", "pump", "flow", (0, 1)), ("add", 2, 0)), ()),))
BOTH = (POOL, PUMP)

# A function that calls itself; a ring over three in two units, one that leads into it, one that is led to; and both.
SELF = units(unit("a", fun("f", 1, ("call", "a", "f", (0,))), fun("g", 1, ("add", 0, 0))))
RING = units(unit("a", fun("f", 1, ("call", "b", "g", (0,))), fun("in", 1, ("call", "a", "f", (0,)))),
             unit("b", fun("g", 1, ("call", "b", "h", (0,)), ("add", 0, 1)), fun("h", 1, ("call", "a", "f", (0,)), ("call", "c", "out", (1,)))),
             unit("c", fun("out", 1, ("call", "no", "no", (0,)))))
RING_PAIRS = (("a", "f"), ("b", "g"), ("b", "h"))
# Calls with too many places and with too few, of a missing one with any, and one that fits.
MISFITS = units(unit("a", fun("f", 1, ("call", "b", "g", (0,)), ("call", "b", "g", (0, 1)), ("call", "b", "g", (0, 1, 2)),
                                   ("call", "no", "no", (0,)), ("call", "b", "x", (0, 0, 0)))),
                unit("b", fun("g", 2, ("sub", 0, 1)), fun("h", 1, ("num", Q0), ("call", "a", "f", (0, 1)))))
MISFIT_ROWS = (("a", "f", 0), ("a", "f", 2), ("b", "h", 1))
RING_AND_MISFIT = units(unit("a", fun("f", 1, ("call", "a", "f", (0, 0)))))
# b.h calls what is missing, b.g over b.h, a.f over b.g; only a line that nothing reads does so in b.i.
OPEN = units(unit("a", fun("f", 1, ("call", "b", "g", (0,)), ("add", 0, 1), keeps=((1, UNIT), (2, UNIT))), fun("free", 1, ("mul", 0, 0))),
             unit("b", fun("g", 1, ("call", "b", "h", (0,))), fun("h", 1, ("call", "z", "z", (0,)), ("call", "no", "f", (0,))),
                  fun("i", 2, ("call", "no", "no", (1,)), ("add", 0, 1), ("sub", 3, 1), ("mul", 2, 4), ("mul", 3, 3), ("add", 0, 1)),
                  fun("j", 2, ("call", "b", "i", (0, 1)), ("call", "a", "free", (0,)), ("call", "a", "free", (2,)), ("num", Q2))))
# Two inputs in common, a knot, a constant, one place handed twice, lines that nothing reads.
MIXED = units(unit("mix", fun("bent", 2, ("mul", 0, 0), ("add", 2, 1), keeps=((1, UNIT), (2, UNIT), (3, UNIT))),
                   fun("flat", 2, ("call", "mix", "bent", (0, 1)), ("mul", 0, 0), ("sub", 2, 3), keeps=((2, UNIT), (4, UNIT))),
                   fun("gone", 2, ("sub", 0, 0), ("mul", 1, 2), ("num", (-3, 2)), ("add", 3, 4), keeps=((3, (Q0, Q0)), (5, UNIT))),
                   fun("knot", 3, ("mul", 0, 1), ("mul", 0, 2), ("mul", 1, 2), ("add", 3, 4), ("add", 6, 5), side=WIDE_SIDE,
                       keeps=((0, WIDE_SIDE), (7, ((-8, 1), (27, 1))))),
                   fun("same", 2, ("call", "mix", "knot", (0, 0, 1)), ("call", "mix", "bent", (1, 1)))),
              unit("out", fun("f", 3, ("call", "mix", "knot", (0, 1, 2)), ("call", "mix", "flat", (3, 0)), ("mul", 0, 1), ("sub", 4, 1),
                              keeps=((3, ((0, 1), (3, 1))), (4, (Q1, Q2)), (5, ((2, 1), (3, 1))), (6, UNIT)))))
HAND_UNITS = (UNITS, BOTH, OPEN, MIXED, (LEVEL,), ())


def tables(rows):
    return {(name, function[0]): function for name, functions in rows for function in functions}


def run_slowly(rows, pair, point):
    """The value at a point of Fractions, and the list of the functions that were handed what a side does not hold."""
    functions, outside = tables(rows), []
    values = list(point)
    for line in functions[pair][2]:
        if line[0] == "call":
            callee, handed = line[1:3], [values[place] for place in line[3]]
            if any(not frac(near) <= entry <= frac(far) for entry, (near, far) in zip(handed, functions[callee][1])):
                outside.append(callee)
            value, others = run_slowly(rows, callee, handed)
            outside += others
        elif line[0] == "num":
            value = frac(line[1])
        else:
            one, other = values[line[1]], values[line[2]]
            value = one + other if line[0] == "add" else one - other if line[0] == "sub" else one * other
        values.append(value)
    return values[-1], outside


def is_open_slowly(rows, pair):
    functions = tables(rows)
    return pair not in functions or any(is_open_slowly(rows, line[1:3]) for line in functions[pair][2] if line[0] == "call")


def written_slowly(rows, pair, place=None):
    """The lines of the function up to one of its places, without calls, and which line that place is; inputs alike."""
    function = tables(rows)[pair]
    lines, places = [], list(range(len(function[1])))
    for line in function[2]:
        if line[0] == "num":
            lines.append(line)
        elif line[0] != "call":
            lines.append((line[0], places[line[1]], places[line[2]]))
        else:
            (many, inner), handed = written_slowly(rows, line[1:3]), [places[entry] for entry in line[3]]
            own = handed + [len(function[1]) + len(lines) + k for k in range(len(inner))]
            lines += [part if part[0] == "num" else (part[0], own[part[1]], own[part[2]]) for part in inner]
        places.append(len(function[1]) + len(lines) - 1)
    if place is not None:
        # A last line with the place's value, also if the place is an input.
        lines += [("num", Q1), ("mul", places[place], len(function[1]) + len(lines))]
    return len(function[1]), tuple(lines)


def random_units(rng, missing=0.1, most_inputs=3):
    """Linked units with small degrees; now and then a function that is called is missing."""
    while True:
        pairs = [(rng.choice("abc"), name) for name in rng.sample(["f", "g", "h", "i", "j"], rng.randint(2, 5))]
        functions = {}
        for pair in pairs:
            functions[pair] = random_function(rng, pair[1], functions, missing, most_inputs)
        rows = tuple((name, tuple(functions[pair] for pair in sorted(functions) if pair[0] == name))
                     for name in sorted({pair[0] for pair in pairs}))
        if all(is_open_slowly(rows, pair) or is_small(written_slowly(rows, pair)) for pair in pairs):
            return rows


def is_small(program):
    return len(program[1]) <= 60 and max(degrees_of(program)) <= 6


def random_function(rng, name, functions, missing, most_inputs):
    size = rng.randint(1, most_inputs)
    lines = []
    for k in range(rng.randint(1, 4)):
        place = lambda: max(rng.randrange(size + k), rng.randrange(size + k))
        word = rng.choice(("add", "sub", "mul", "add", "sub", "num", "call", "call", "call"))
        if word == "num":
            lines.append(("num", random_number(rng)))
        elif word != "call" or not functions:
            lines.append(("add" if word == "call" else word, place(), place()))
        elif rng.random() < missing:
            lines.append(("call", rng.choice("abcz"), "zero", (place(),)))
        else:
            callee = rng.choice(sorted(functions))
            lines.append(("call", *callee, tuple(place() for _ in functions[callee][1])))
    places = sorted(rng.sample(range(size + len(lines)), rng.randint(0, 2)))
    keeps = tuple((place, random_box(rng, 1)[0]) for place in places)
    return (name, random_box(rng, size), tuple(lines), keeps)
