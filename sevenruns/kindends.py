"""Corners at which kinds have their least and their greatest value, and how many there are."""

from sevenruns.boxes import wide_sides
from sevenruns.formmaking import number_of
from sevenruns.formruns import form_at
from sevenruns.kindthings import ask_first_kind, ask_kind_box, lot_of
from sevenruns.reckoning import NOUGHT, ONE, added, is_less, multiplied, span_over
from sevenruns.trees import places_form


def ends_by(kind, box):
    """A corner of the box at which the kind has its least value, and one at which it has its greatest."""
    spots = found_ends(kind, box).spots
    return tuple(tuple(spot.get(which, box[which][0]) for which in range(len(box))) for spot in spots)


def counts_by(kind, box):
    """At how many corners of the box the kind has its least value, and at how many its greatest."""
    found = found_ends(kind, box)
    lot = lot_of(kind)
    beside = [which for which in wide_sides(box) if which not in lot]
    return tuple(number << len(beside) for number in found.numbers)


def found_ends(kind, box):
    """The Ends of the kind on the box, for the inputs that stand in it."""
    ask_kind_box(kind, box)
    ask_first_kind(kind)
    if kind[0] == "bare":
        return Ends((kind[1], kind[1]), ({}, {}), (1, 1), 1)
    return changed(tree_ends(kind[3], box), kind[2], kind[1])


class Ends:
    """The least and the greatest value at corners, a spot with each, at how many it is, how many corners there are.

    A spot is a dict from inputs to ends of their sides."""

    def __init__(self, limits, spots, numbers, many):
        self.limits = limits
        self.spots = spots
        self.numbers = numbers
        self.many = many

    def weights(self):
        """At how many corners the value is the least, the greatest, one between; all alike count as least."""
        if self.limits[0] == self.limits[1]:
            return (self.many, 0, 0)
        return (self.numbers[0], self.numbers[1], self.many - self.numbers[0] - self.numbers[1])


def tree_ends(tree, box):
    """The Ends of the tree's value."""
    if not isinstance(tree, tuple):
        near, far = box[tree]
        return Ends((near, far), ({tree: near}, {tree: far}), (1, 1), 1 if near == far else 2)
    if tree[0] == "knot":
        parts = [tree_ends(son, box) for son in tree[1]]
        return joined(corner_values(places_form(tree), [part.limits for part in parts]), parts)
    found = None
    for number, son in tree[1]:
        part = tree_ends(son, box)
        part = changed(part, (number, 1), NOUGHT) if tree[0] == "sum" else changed(part, ONE, number)
        found = part if found is None else beside_each_other(tree[0], found, part)
    return found


def changed(part, scale, base):
    """The Ends of the part's value times scale, which is not nought, and base added."""
    limits = tuple(added(multiplied(limit, scale), base) for limit in part.limits)
    if is_less(scale, NOUGHT):
        return Ends(limits[::-1], part.spots[::-1], part.numbers[::-1], part.many)
    return Ends(limits, part.spots, part.numbers, part.many)


def beside_each_other(word, one, other):
    """The Ends of the sum or product of two values without an input in common."""
    pairs = [(low, high) for low in one.limits for high in other.limits]
    values = [added(low, high) if word == "sum" else multiplied(low, high) for low, high in pairs]
    return joined(values, [one, other])


def corner_values(form, sides):
    """The list of the form's values with ends of the sides in the places of its inputs; the last one changes first."""
    forms = [form]
    for place, side in enumerate(sides):
        forms = [form_at(part, place, end) for part in forms for end in side]
    return [number_of(part) for part in forms]


def joined(values, parts):
    """The Ends of a value of first degree in those of the parts; values has it at their ends, as corner_values."""
    limits = span_over(values)
    spots = tuple(joined_spot(values.index(limit), parts) for limit in limits)
    weights = [part.weights() for part in parts]
    numbers = tuple(count_of([value == limit for value in values], weights) for limit in limits)
    many = 1
    for part in parts:
        many *= part.many
    return Ends(limits, spots, numbers, many)


def joined_spot(at, parts):
    """The spot at which the parts have the ends that stand for value number at."""
    spot = {}
    for part in reversed(parts):
        spot.update(part.spots[at & 1])
        at >>= 1
    return spot


def count_of(hits, weights):
    """At how many corners the value is the one that it has where hits tells, weights being those of the parts."""
    if not any(hits):
        return 0
    if not weights:
        return 1
    low, high = hits[:len(hits) // 2], hits[len(hits) // 2:]
    # Where a part is between its ends, the value is an end of its span only if it is so at both.
    both = [one and other for one, other in zip(low, high)]
    least, greatest, between = weights[0]
    counts = [count_of(part, weights[1:]) for part in (low, high, both)]
    return least * counts[0] + greatest * counts[1] + between * counts[2]
