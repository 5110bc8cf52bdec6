"""What any value is: integers, quotients, spans, lots, bundles, points, boxes."""

from math import gcd


def is_integer(thing):
    """True if thing is an int that is not a bool."""
    return isinstance(thing, int) and not isinstance(thing, bool)


def is_number(thing):
    """True if thing is an integer of at least 0."""
    return is_integer(thing) and thing >= 0


def is_positive(thing):
    """True if thing is an integer of at least 1."""
    return is_integer(thing) and thing >= 1


def is_pair(thing):
    """True if thing is a tuple of two values."""
    return isinstance(thing, tuple) and len(thing) == 2


def has_word(thing):
    """True if thing is a tuple that begins with a string."""
    return isinstance(thing, tuple) and len(thing) >= 1 and isinstance(thing[0], str)


def is_quotient(thing):
    """True if thing is a quotient in lowest terms, its bottom at least 1."""
    if not is_pair(thing):
        return False
    top, bottom = thing
    return is_integer(top) and is_integer(bottom) and bottom >= 1 and gcd(top, bottom) == 1


def is_span(thing):
    """True if thing is a pair of quotients, the first not above the second."""
    if not is_pair(thing):
        return False
    near, far = thing
    return is_quotient(near) and is_quotient(far) and near[0] * far[1] <= far[0] * near[1]


def is_input(size, thing):
    """True if thing is a number below size."""
    return is_number(thing) and thing < size


def are_inputs(size, thing):
    """True if thing is a tuple of inputs below size, in any sequence."""
    return isinstance(thing, tuple) and all([is_input(size, entry) for entry in thing])


def is_lot(size, thing):
    """True if thing is a tuple of inputs below size that ascend."""
    return are_inputs(size, thing) and all([thing[k - 1] < thing[k] for k in range(1, len(thing))])


def is_bundle(size, thing):
    """True if thing is a tuple of inputs below size that do not descend."""
    return are_inputs(size, thing) and all([thing[k - 1] <= thing[k] for k in range(1, len(thing))])


def is_point(size, thing):
    """True if thing is a tuple of as many quotients as size says."""
    return isinstance(thing, tuple) and len(thing) == size and all([is_quotient(entry) for entry in thing])


def is_box(size, thing):
    """True if thing is a tuple of as many spans as size says."""
    return isinstance(thing, tuple) and len(thing) == size and all([is_span(side) for side in thing])
