"""Plain programs that lose something, by what loss_paper tells of them, and programs that are made to lose little."""

from tests.samples import MIXING, Q0, Q1, Q2, SPREAD

MINUS = ("num", (-1, 1))

# The form is not of first degree.
BENT_ONES = (
    (1, (("mul", 0, 0),)),
    (2, (("mul", 0, 1), ("mul", 2, 1))),
    (3, (("add", 0, 1), ("mul", 3, 0), ("sub", 4, 2))),
    # A nought line that is read by a mul, but a square beside it: bent is told first.
    (2, (("sub", 0, 0), ("mul", 2, 1), ("mul", 1, 1), ("add", 3, 4))),
    # Flat for small numbers of x0: it bends in x1 beside x0 (x0 - 1) (x0 - 2).
    (2, (("num", Q1), ("num", Q2), ("sub", 0, 2), ("sub", 0, 3), ("mul", 0, 4), ("mul", 6, 5), ("mul", 1, 1), ("mul", 7, 8))),
)

# (program, line of the first nought line that a mul that counts reads).
NOUGHT_ONES = (
    ((2, (("sub", 0, 0), ("mul", 2, 1))), 0),
    ((2, (("sub", 0, 0), ("mul", 1, 2), ("add", 1, 3))), 0),
    # The first of several, though a later one is read first.
    ((2, (("num", Q1), ("sub", 0, 0), ("sub", 1, 1), ("mul", 4, 0), ("mul", 3, 1), ("add", 5, 6), ("add", 7, 1))), 1),
    # The first nought line is read by an add alone.
    ((2, (("sub", 0, 0), ("sub", 1, 1), ("mul", 3, 0), ("add", 2, 4))), 1),
    # Nought beside nought, and nought times itself.
    ((2, (("sub", 0, 0), ("sub", 1, 1), ("mul", 2, 3), ("add", 4, 0))), 0),
    ((1, (("sub", 0, 0), ("mul", 1, 1), ("add", 0, 2))), 0),
    # A product of x0 and its nought copy, and a sum that is nought by multiplying out alone.
    ((3, (("add", 0, 1), ("mul", 3, 2), ("mul", 0, 2), ("mul", 1, 2), ("sub", 4, 5), ("sub", 7, 6), ("mul", 8, 0), ("add", 9, 1))), 5),
    # The nought line is nought times a number, too.
    ((2, (("num", Q2), ("sub", 1, 1), ("mul", 2, 3), ("add", 4, 0))), 1),
    # Squares that fall out again.
    ((2, (("sub", 0, 0), ("mul", 2, 0), ("add", 3, 1))), 0),
)

# Of first degree, and without such a line.
BOX_ONES = (
    SPREAD, MIXING,
    (1, (("sub", 0, 0),)),
    (1, (("sub", 0, 0), ("add", 1, 0))),
    (2, (("mul", 0, 1), ("add", 2, 0))),
    # A nought line that a mul reads beside a void one, and one that does not count.
    (2, (("num", Q0), ("sub", 0, 0), ("mul", 2, 3), ("sub", 1, 4), ("sub", 5, 1), ("add", 6, 1))),
    (2, (("sub", 0, 0), ("mul", 2, 1), ("sub", 0, 1), ("add", 4, 1))),
    # Squares that fall out: x0 x0 - x0 x0 + x0, and (x0 + 1) (x0 - 1) - x0 x0.
    (1, (("mul", 0, 0), ("mul", 0, 0), ("sub", 1, 2), ("add", 3, 0))),
    (1, (("num", Q1), ("add", 0, 1), ("sub", 0, 1), ("mul", 2, 3), ("mul", 0, 0), ("sub", 4, 5))),
    # (x0 - x0 + x1) x0, and the same square in both reads of a sub, times x1.
    (2, (("sub", 0, 0), ("add", 2, 1), ("mul", 3, 0))),
    (2, (("mul", 0, 0), ("mul", 1, 2), ("mul", 2, 1), ("sub", 3, 4), ("add", 0, 5))),
    # Parts with one lot: which differ in a number, and in a sign.
    (2, (("num", Q1), ("add", 0, 2), ("mul", 3, 1), ("add", 4, 1))),
    (2, (("add", 0, 1), ("sub", 0, 1), ("add", 2, 3))),
    (2, (MINUS, ("mul", 2, 0), ("mul", 3, 1), ("mul", 0, 1), ("add", 4, 5), ("add", 6, 1))),
    # The loss stands far up, behind muls by what does not carry the same inputs, nought at 0, 1 and 2.
    (4, (("mul", 0, 1), ("mul", 0, 2), ("add", 4, 5), ("num", Q1), ("num", Q2), ("sub", 3, 7), ("mul", 6, 9), ("add", 10, 1))),
    # The steps by x0, 1 and x1 + 5, are opposed below -5 alone; those of the next one, 1 and 7 - x1, above 7.
    (2, (("num", (5, 1)), ("add", 1, 2), ("mul", 0, 3), ("add", 0, 4))),
    (2, (("num", (7, 1)), ("sub", 2, 1), ("mul", 0, 3), ("add", 4, 0))),
    # A sum doubled thirty times, so there are more copies than could be written out.
    (2, (("mul", 0, 1), ("add", 2, 0)) + tuple(("add", 3 + k, 3 + k) for k in range(30))),
    (1, tuple(("add", k, k) for k in range(38)) + (("sub", 38, 0),)),
)


def turning_program(turns, more=()):
    """x0 (a x1 - b) + x0 (c x1 - d): the steps by x0 are nought at b / a and at d / c; more lines behind."""
    (a, b), (c, d) = turns
    lines = (("num", (a, 1)), ("mul", 3, 1), ("num", (b, 1)), ("sub", 4, 5), ("mul", 0, 6),
             ("num", (c, 1)), ("mul", 8, 1), ("num", (d, 1)), ("sub", 9, 10), ("mul", 0, 11), ("add", 7, 12))
    return (3, lines + tuple(more))


# Between their turns alone the steps are opposed; most of them turn between two neighbouring numbers.
NARROW_ONES = (
    turning_program(((5, 2), (5, 3))),
    turning_program(((5, -3), (5, -2))),
    turning_program(((1, 0), (7, 3))),
    turning_program(((2, 5), (1, 3))),
    turning_program(((-3, 1), (-3, 2))),
    turning_program(((10 ** 6, 10 ** 6 + 1), (10 ** 6, 10 ** 6 + 2))),
    turning_program(((10 ** 12, 1), (10 ** 12 - 1, 1))),
    # Whole numbers between the turns.
    turning_program(((1, 0), (1, 5))),
    turning_program(((-1, 3), (-2, -9))),
    # Moved up in x0, by unlike numbers, and times x2 - 1.
    turning_program(((5, 2), (5, 3)), (("add", 13, 1), ("num", Q1), ("sub", 2, 15), ("mul", 14, 16))),
    (3, (("num", (5, 1)), ("mul", 3, 1), ("num", Q2), ("sub", 4, 5), ("mul", 0, 6), ("num", (1000, 1)), ("mul", 8, 1), ("add", 7, 9),
         ("num", (3, 1)), ("sub", 4, 11), ("mul", 0, 12), ("sub", 13, 1), ("add", 10, 14))),
)
