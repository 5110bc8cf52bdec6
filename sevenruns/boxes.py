"""Boxes: their corners and wide sides, and the points in them."""

from sevenruns.asking import ask, ask_input, ask_point
from sevenruns.spans import holds
from sevenruns.things import is_point, is_span


def corners_of(box):
    """A generator of the corners, each once, first ends ahead of second ones."""
    wide = wide_sides(box)
    for number in range(1 << len(wide)):
        corner = [side[0] for side in box]
        for k in range(len(wide)):
            # The first wide side changes last, so it has the highest bit.
            corner[wide[k]] = box[wide[k]][(number >> (len(wide) - 1 - k)) & 1]
        yield tuple(corner)


def wide_sides(box):
    """The lot of the inputs with wide sides."""
    return tuple(k for k in range(len(box)) if box[k][0] != box[k][1])


def in_box(box, point):
    """True if point, one entry for each side, is in box, else False."""
    ask_point(len(box), point)
    return all([holds(box[k], point[k]) for k in range(len(box))])


def with_side(box, which, span):
    """The box with span as its side which, all else as in box."""
    ask_input(len(box), which)
    ask(is_span(span), "span")
    return side_put(box, which, span)


def side_put(box, which, span):
    """As with_side; nothing is checked."""
    return box[:which] + (span,) + box[which + 1:]


def point_box(point):
    """The box that holds point, a tuple of at least one quotient, alone."""
    ask(isinstance(point, tuple) and len(point) >= 1 and is_point(len(point), point), "point")
    return tuple((entry, entry) for entry in point)
