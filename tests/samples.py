"""Values that several tests use, and helpers to check what is refused."""

from fractions import Fraction
from itertools import product

from sevenruns.errors import NotUsable

Q0, Q1, Q2, UNIT = (0, 1), (1, 1), (2, 1), ((0, 1), (1, 1))
SPREAD = (3, (("mul", 0, 1), ("mul", 0, 2), ("add", 3, 4)))
TIGHT = (3, (("add", 1, 2), ("mul", 0, 3)))
MIXING = (3, (("sub", 1, 0), ("mul", 2, 3), ("add", 0, 4)))
PAIRS = (3, (((0, 1), Q1), ((0, 2), Q1), ((1, 2), Q1)))
HIDDEN = (2, (("num", Q0), ("add", 0, 1), ("mul", 2, 3), ("sub", 4, 1)))
THRICE = (2, (("mul", 0, 1), ("num", (-3, 1)), ("mul", 2, 3), ("sub", 2, 4)))
TANK = ("tank", (("level", (UNIT,), (("call", "pump", "flow", (0,)),), ((1, UNIT),)),))
SQUARE = (1, (("mul", 0, 0),))
BENT = (2, (((), Q1), ((0, 1, 1), Q2)))
MIXED = (2, (("mix", (0, 1), (Q1, Q2, Q0, Q1)),))

# No number, no quotient, no span, no point, no text, no line: nothing that a parameter asks for.
NOTHINGS = (None, True, False, "x", (None,), [], [(0, 1)], ("num",))
NO_QUOTIENTS = NOTHINGS + (1, 0, (2, 4), (1, 0), (1, -1), (True, 1), (1, True), (0, 2), (1, 1, 1), [1, 1], ("1", 1))
NO_INPUTS = NOTHINGS + (-1, 40, (0,))
NO_SPANS = NOTHINGS + (1, Q1, (Q1, Q0), (Q0, (2, 4)), (Q0, Q1, Q2), [Q0, Q1], ((0, True), Q1))
NO_TEXTS = (None, True, 1, ("1",), ["1"])


class Wrong:
    """A value of a foreign class."""


def no_points(size):
    """Values that are no point of this size."""
    return NOTHINGS + (1, (Q0,) * (size + 1), (Q0,) * (size - 1) if size > 1 else (), [Q0] * size,
                       ((2, 4),) * size, (Q0,) * (size - 1) + ((True, 1),))


def no_boxes(size):
    """Values that are no box of this size."""
    return NOTHINGS + (1, (UNIT,) * (size + 1), (UNIT,) * (size - 1), [UNIT] * size, ((Q1, Q0),) * size,
                       (Q0,) * size, (UNIT,) * (size - 1) + ((Q0, (2, 4)),))


def check_refusals(case, function, right, wrong):
    """Each wrong value is told by the name of its parameter, and the first parameter ahead of later ones.

    right is a dict of arguments, in their order; wrong one from names to lists of wrong values."""
    names = [name for name in right if name in wrong]
    for at, name in enumerate(names):
        for value in wrong[name]:
            check_refused(case, function, {**right, name: value}, name)
            for later in names[at + 1:]:
                check_refused(case, function, {**right, name: value, later: wrong[later][0]}, name)


def check_refused(case, function, given, name):
    """The call with these arguments raises NotUsable(name, -1), by position and by name."""
    with case.subTest(given=given):
        with case.assertRaises(NotUsable) as by_name:
            function(**given)
        with case.assertRaises(NotUsable) as by_position:
            function(*given.values())
        for caught in (by_name, by_position):
            case.assertEqual((caught.exception.word, caught.exception.at), (name, -1))


def check_raises(case, error, fields, function, *given):
    """The call raises this error with these fields, no more and no others."""
    with case.subTest(given=given):
        with case.assertRaises(error) as caught:
            function(*given)
        case.assertIs(caught.exception.__class__, error)
        case.assertEqual(vars(caught.exception), fields)


def frac(quotient):
    """The quotient as a Fraction."""
    return Fraction(quotient[0], quotient[1])


def quot(fraction):
    """The quotient of a Fraction or an int."""
    fraction = Fraction(fraction)
    return (fraction.numerator, fraction.denominator)


def plain_run(program, point):
    """The values of all places, reckoned with Fractions, by another way than the package's."""
    values = [frac(entry) for entry in point]
    for line in program[1]:
        word = line[0]
        if word == "num":
            values.append(frac(line[1]))
        elif word == "mix":
            total = Fraction(0)
            for s, number in enumerate(line[2]):
                term = frac(number)
                for j, place in enumerate(line[1]):
                    if s // 2 ** j % 2:
                        term *= values[place]
                total += term
            values.append(total)
        else:
            one, other = values[line[1]], values[line[2]]
            values.append(one + other if word == "add" else one - other if word == "sub" else one * other)
    return values


def form_value(form, point):
    """The form's value, reckoned with Fractions."""
    total = Fraction(0)
    for bundle, quotient in form[1]:
        term = frac(quotient)
        for which in bundle:
            term *= frac(point[which])
        total += term
    return total


def some_points(size, numbers=((0, 1), (1, 1), (-2, 1), (3, 2))):
    """Many points of this size, all there are of these numbers for a small size."""
    if size <= 3:
        return list(product(numbers, repeat=size))
    return [tuple(numbers[(k * (which + 1) + which) % len(numbers)] for which in range(size)) for k in range(12)]


def random_number(rng):
    """A small quotient, nought now and then."""
    return quot(Fraction(rng.choice((-2, -1, 0, 1, 1, 2, 3)), rng.choice((1, 1, 1, 2))))


def random_program(rng, most_inputs=3, most_lines=5, words=("add", "sub", "mul", "add", "sub", "mul", "num")):
    """A small program, its lines reading late places rather than early ones."""
    size = rng.randint(1, most_inputs)
    lines = []
    for k in range(rng.randint(1, most_lines)):
        word = rng.choice(words)
        place = lambda: rng.choice((rng.randrange(size + k), size + k - 1 - rng.randrange(min(size + k, 2))))
        if word == "num":
            lines.append(("num", random_number(rng)))
        elif word == "mix":
            reads = tuple(place() for _ in range(rng.randint(1, 3)))
            lines.append(("mix", reads, tuple(random_number(rng) for _ in range(2 ** len(reads)))))
        else:
            lines.append((word, place(), place()))
    return (size, tuple(lines))


def random_box(rng, size, wide=True):
    """A box with small ends; some sides are not wide."""
    sides = []
    for _ in range(size):
        ends = sorted([Fraction(rng.randint(-3, 3), rng.choice((1, 2))) for _ in range(2)])
        if not wide or rng.random() < 0.2:
            ends[1] = ends[0]
        sides.append((quot(ends[0]), quot(ends[1])))
    return tuple(sides)
