"""Codes written by hand and others, and slow ways to tell what is true of them."""

from itertools import product

CODE = (2, 2, (("in", 0, 0, 3), ("in", 1, 0, 3), ("mul", 0, 1, 5), ("sub", 2, 0, 4)))
BOX = (((0, 1), (3, 1)), ((0, 1), (3, 1)))
# Rows that nothing reads, a row read twice, an input twice, values of one sign alone, nought alone; widths at will.
LOOSE = (3, 5, (("num", -7, 0, 9), ("in", 2, 0, 6), ("num", 0, 0, 1), ("in", 2, 0, 8), ("add", 1, 3, 7), ("mul", 4, 2, 1), ("sub", 4, 0, 12),
                ("mul", 0, 1, 20), ("in", 0, 0, 3), ("add", 6, 8, 30)))
LOOSE_BOX = (((-2, 1), (1, 1)), ((5, 1), (5, 1)), ((-3, 1), (-1, 1)))
SQUARE_CODE = (2, 1, (("in", 1, 0, 5), ("in", 0, 0, 5), ("mul", 0, 1, 9), ("add", 2, 1, 9), ("mul", 3, 0, 9), ("mul", 4, 1, 30)))
CODES = (CODE, LOOSE, SQUARE_CODE, (1, 1, (("in", 0, 0, 1),)), (4, 3, (("num", -5, 0, 4),)))


def code_values(code, numbers):
    """The list of the values of all rows at a point of ints, whatever the widths are."""
    values = []
    for word, one, other, _ in code[2]:
        if word == "in":
            values.append(numbers[one])
        elif word == "num":
            values.append(one)
        else:
            read = (values[one], values[other])
            values.append(sum(read) if word == "add" else read[0] - read[1] if word == "sub" else read[0] * read[1])
    return values


def width_slowly(*values):
    """The least width with which rows of all of these values fit, tried one by one."""
    width = 1
    while not all(-2 ** (width - 1) <= value < 2 ** (width - 1) for value in values):
        width += 1
    return width


def whole_box_points(box):
    """All points of whole quotients in a box of whole ends, as tuples of ints."""
    return list(product(*(range(near[0], far[0] + 1) for near, far in box)))


def whole_box_corners(box):
    return list(product(*(sorted({near[0], far[0]}) for near, far in box)))


def whole_point(numbers):
    return tuple((number, 1) for number in numbers)


def whole_box_of(*sides):
    """The box with these pairs of ints as its sides."""
    return tuple(((near, 1), (far, 1)) for near, far in sides)


def some_whole_box(rng, size, reach=4):
    """A box of whole ends; some sides are not wide."""
    sides = [sorted(rng.randint(-reach, reach) for _ in range(2)) for _ in range(size)]
    return whole_box_of(*((near, near) if rng.random() < 0.2 else (near, far) for near, far in sides))


def random_code(rng, first=True):
    """A code of a few rows, each of first degree if first, with widths at will."""
    size = rng.randint(1, 4)
    rows, hung = [], []
    for _ in range(rng.randint(1, 9)):
        word = rng.choice(("in", "num", "add", "sub", "mul", "mul"))
        width = rng.choice((1, 2, 3, 4, 6, 40))
        if word == "in" or not rows:
            which = rng.randrange(size)
            rows.append(("in", which, 0, width))
            hung.append({which})
        elif word == "num":
            rows.append(("num", rng.randint(-9, 9), 0, width))
            hung.append(set())
        else:
            one, other = rng.randrange(len(rows)), rng.randrange(len(rows))
            if first and word == "mul" and hung[one] & hung[other]:
                word = "add"
            rows.append((word, one, other, width))
            hung.append(hung[one] | hung[other])
    return (size, rng.choice((1, 1, 2, 6)), tuple(rows))
