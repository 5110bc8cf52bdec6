"""Forms of first degree with their kinds, written by hand, and slow ways to tell what is true of them."""

from fractions import Fraction
from itertools import combinations, product

from sevenruns.formfacts import hangs_on
from sevenruns.forms import bare_form, form_from, form_plus, form_scaled, form_times, input_form
from sevenruns.formruns import step_of, step_two
from sevenruns.formtexts import read_form
from sevenruns.kindmaking import kind_of
from tests.samples import BENT, NOTHINGS, Q0, Q1, Q2, UNIT, frac, quot

HALF, MINUS = (1, 2), (-1, 1)
# A knot of three, and one of four: a path.
PAIRS_TREE = ("knot", (0, 1, 2), (((0, 1), 1), ((0, 2), 1), ((1, 2), 1)))
PATH_TREE = ("knot", (0, 1, 2, 3), (((0, 1), 1), ((1, 2), 1), ((2, 3), 1)))
# x0 (x1 + x2), and as a kind.
TIGHT_TREE = ("product", ((Q0, 0), (Q0, ("sum", ((1, 1), (1, 2))))))
TIGHT_KIND = ("first", Q0, Q1, TIGHT_TREE)
PAIRS_KIND = ("first", Q0, Q1, PAIRS_TREE)
SHIFTED = ("product", ((Q1, ("product", ((Q0, 0), (Q0, 1)))), (Q0, 2)))
# A knot of a sum, an input and a product, and in the sum a knot.
NESTED_TREE = ("knot", (("sum", ((1, PAIRS_TREE), (-2, 3))), 4, ("product", ((Q1, 5), (HALF, 6)))),
               (((0,), 2), ((0, 1), 1), ((1, 2), -1)))
BENT_KIND = ("bent", BENT)
SQUARE_KIND = ("bent", (1, (((0, 0), Q1),)))
GAP_KIND = ("first", HALF, (-3, 1), ("sum", ((2, 7), (-3, ("product", ((HALF, 20), (Q0, 39)))))))
BARE_KIND = ("bare", (-5, 2))

# The form's text, and its kind.
HAND = (
    ("2: 0", ("bare", Q0)),
    ("3: -5/2", BARE_KIND),
    ("4: 2 x1", ("first", Q0, Q2, 1)),
    ("1: 3 + -1/2 x0", ("first", (3, 1), (-1, 2), 0)),
    # A common divisor, a first whole below 0, quotients.
    ("3: 7 + 4 x0 + -6 x1 + 2 x2", ("first", (7, 1), Q2, ("sum", ((2, 0), (-3, 1), (1, 2))))),
    ("2: -2/3 x0 + 4/9 x1", ("first", Q0, (-2, 9), ("sum", ((3, 0), (-2, 1))))),
    ("9: -1 x3 + 1 x8", ("first", Q0, MINUS, ("sum", ((1, 3), (-1, 8))))),
    # Products, with shifts and without.
    ("3: 1 x0 x1 x2", ("first", Q0, Q1, ("product", ((Q0, 0), (Q0, 1), (Q0, 2))))),
    ("2: -1 + -2 x0 + 2 x0 x1 + 1 x1", ("first", Q0, Q2, ("product", ((HALF, 0), (MINUS, 1))))),
    ("2: 1 x0 + 1 x0 x1 + 1 x1", ("first", MINUS, Q1, ("product", ((Q1, 0), (Q1, 1))))),
    ("3: 1 x0 x1 x2 + 1 x2", ("first", Q0, Q1, SHIFTED)),
    ("3: 1 x0 x1 + 1 x0 x2", TIGHT_KIND),
    # A sum in a product in a sum.
    ("5: 3 x0 x2 + 6 x0 x4 + -1 x1", ("first", Q0, Q1, ("sum", ((3, ("product", ((Q0, 0), (Q0, ("sum", ((1, 2), (2, 4))))))),
                                                               (-1, 1))))),
    # The sons of a product in the sequence of their least inputs, though the first one ends behind the second.
    ("4: 1 x0 x1 + 1 x0 x2 + 1 x1 x3 + 1 x2 x3",
     ("first", Q0, Q1, ("product", ((Q0, ("sum", ((1, 0), (1, 3)))), (Q0, ("sum", ((1, 1), (1, 2)))))))),
    # Knots.
    ("3: 1 x0 x1 + 1 x0 x2 + 1 x1 x2", PAIRS_KIND),
    ("3: 1 x0 + -1 x0 x2 + 1 x1 x2", ("first", Q0, Q1, ("knot", (0, 1, 2), (((0,), 1), ((0, 2), -1), ((1, 2), 1))))),
    ("4: 1 x0 x1 + 1 x1 x2 + 1 x2 x3", ("first", Q0, Q1, PATH_TREE)),
    ("3: 1/3 + -1/2 x0 x1 + 1/4 x0 x2 + -3 x1 x2",
     ("first", (1, 3), (-1, 4), ("knot", (0, 1, 2), (((0, 1), 2), ((0, 2), -1), ((1, 2), 12))))),
    # All sums of two beside the product of all: a knot, though every two inputs are alike.
    ("3: 1 x0 x1 + 2 x0 x1 x2 + 1 x0 x2 + 1 x1 x2",
     ("first", Q0, Q1, ("knot", (0, 1, 2), (((0, 1), 1), ((0, 1, 2), 2), ((0, 2), 1), ((1, 2), 1))))),
    # A knot with a sum as a son, and a knot in a sum beside a product.
    ("4: 1 x0 x1 + 1 x0 x2 + 1 x0 x3 + 1 x1 x3 + 1 x2 x3",
     ("first", Q0, Q1, ("knot", (0, ("sum", ((1, 1), (1, 2))), 3), (((0, 1), 1), ((0, 2), 1), ((1, 2), 1))))),
    ("5: 1 x0 x1 + 1 x0 x2 + 1 x1 x2 + -2 x3 x4",
     ("first", Q0, Q1, ("sum", ((1, PAIRS_TREE), (-2, ("product", ((Q0, 3), (Q0, 4)))))))),
)
HAND_FORMS = tuple((read_form(text), kind) for text, kind in HAND)
FIRST_KINDS = tuple(kind for _, kind in HAND if kind[0] == "first") + (
    ("first", Q1, (-2, 3), NESTED_TREE), GAP_KIND, ("first", Q0, Q1, 39),
    ("first", Q0, Q1, ("product", tuple((Q0 if k == 3 else Q1, k) for k in range(8)))),
    ("first", Q0, Q1, ("sum", tuple((1, k) for k in range(40)))))
KINDS = FIRST_KINDS + (BARE_KIND, ("bare", Q0), BENT_KIND, SQUARE_KIND, ("bent", (40, (((39, 39), Q1),))))
NO_KINDS = (None, True, 0, "bare", (), ("bare",), ("bare", 1), ["bare", Q0], ("bare", Q0, Q0), ("first", Q0, Q0, 0), ("first", Q0, Q1),
            ("first", Q0, Q1, True), ("first", Q0, Q1, 40), ("bent", (1, (((0,), Q1),))), ("bent", (2, (((0, 0), Q1),))), ("other", Q0),
            ("first", Q0, Q1, ("sum", ((1, 0),))), ("first", Q0, Q1, ("sum", ((1, 1), (1, 0)))), (True, Q0))


def no_kind_boxes(least):
    """Values that are no box for a kind which needs so many sides."""
    return NOTHINGS + (0, (), (UNIT,) * (least - 1), [UNIT] * least, (UNIT,) * (least - 1) + (Q0,), (UNIT,) * (least - 1) + ((Q1, Q0),),
                       (UNIT,) * least + (None,), (UNIT,) * (least + 2) + ((Q0, (2, 4)),), ((Q0, (True, 1)),) * least)


def small_kinds():
    """The kinds of first degree whose inputs are below eight."""
    return [kind for kind in FIRST_KINDS if lot_slowly(kind)[-1] < 8]


def lot_slowly(thing):
    """The lot of the inputs in a kind, by another way than the package's."""
    if thing[0] == "first":
        return tuple(sorted(inputs_slowly(thing[3])))
    return () if thing[0] == "bare" else tuple(sorted({which for bundle, _ in thing[1][1] for which in bundle}))


def inputs_slowly(tree):
    if isinstance(tree, int):
        return [tree]
    sons = tree[1] if tree[0] == "knot" else [son for _, son in tree[1]]
    return [which for son in sons for which in inputs_slowly(son)]


def value_slowly(kind, point):
    """The value of a kind of first degree, a Fraction."""
    if kind[0] == "bare":
        return frac(kind[1])
    return frac(kind[1]) + frac(kind[2]) * tree_slowly(kind[3], point)


def tree_slowly(tree, point):
    if isinstance(tree, int):
        return frac(point[tree])
    if tree[0] == "sum":
        return sum(whole * tree_slowly(son, point) for whole, son in tree[1])
    if tree[0] == "product":
        total = Fraction(1)
        for shift, son in tree[1]:
            total *= frac(shift) + tree_slowly(son, point)
        return total
    values = [tree_slowly(son, point) for son in tree[1]]
    total = Fraction(0)
    for lot, whole in tree[2]:
        term = Fraction(whole)
        for place in lot:
            term *= values[place]
        total += term
    return total


def clans_slowly(form):
    """The ascending list of all clans, by what [8] says of them, out of products of steps."""
    hung = hangs_on(form)
    apart = {}
    for one, other in combinations(hung, 2):
        for third in hung:
            if third not in (one, other):
                first = form_times(step_of(form, one), step_two(form, other, third))
                apart[(one, other, third)] = first != form_times(step_of(form, other), step_two(form, one, third))
    lots = [lot for many in range(1, len(hung) + 1) for lot in combinations(hung, many)]
    return sorted(lot for lot in lots if not any(
        apart[(one, other, third)] for one, other in combinations(lot, 2) for third in hung if third not in lot))


def overlap_slowly(one, other):
    return bool(set(one) & set(other)) and not set(one) <= set(other) and not set(other) <= set(one)


def corners_slowly(box):
    return list(product(*[tuple(sorted(set(side), key=frac)) for side in box]))


def random_structured(rng, most=6, knots=True):
    """A form of first degree that is put together out of sums, products and knots, on some of its inputs."""
    size = rng.randint(1, most)
    inputs = [which for which in range(size) if rng.random() < 0.9] or [0]
    form = part_form(rng, inputs, size, knots)
    return form_plus(form_scaled(form, rng.choice((Q1, (-2, 1), (1, 3)))), bare_form(size, rng.choice((Q0, Q1, (-1, 2)))))


def part_form(rng, inputs, size, knots):
    if len(inputs) == 1:
        return input_form(size, inputs[0])
    many = rng.randint(2, min(len(inputs), 5))
    word = rng.choice(("sum", "product", "knot") if many >= 3 and knots else ("sum", "product"))
    inputs = rng.sample(inputs, len(inputs))
    cuts = sorted(rng.sample(range(1, len(inputs)), many - 1))
    parts = [part_form(rng, inputs[low:high], size, knots) for low, high in zip([0] + cuts, cuts + [len(inputs)])]
    number = lambda: rng.choice((Q1, MINUS, Q2, HALF, (-3, 2), (3, 1)))
    if word == "product":
        found = bare_form(size, Q1)
        for part in parts:
            found = form_times(found, form_plus(part, bare_form(size, rng.choice((Q0, Q0, Q1, (-1, 2))))))
        return found
    found = bare_form(size, Q0)
    for mask in range(1, 1 << many):
        lot = [place for place in range(many) if mask >> place & 1]
        if len(lot) == 1 if word == "sum" else rng.random() < 0.5:
            term = bare_form(size, number())
            for place in lot:
                term = form_times(term, parts[place])
            found = form_plus(found, term)
    return found


def dense_form(size, numbers=(1, 2, 3, 5, -1, 7)):
    """A form with a term for each lot of its inputs."""
    lots = [tuple(which for which in range(size) if mask >> which & 1) for mask in range(1 << size)]
    return form_from(size, *((lot, (numbers[k * k % len(numbers)], 1)) for k, lot in enumerate(lots)))


def cycle_form(size):
    """x0 x1 + x1 x2 + .. + the last times x0: one knot if there are three inputs, or five at least."""
    return form_from(size, *(((which, (which + 1) % size), Q1) for which in range(size)))


def path_form(size):
    """x0 x1 + x1 x2 + ..: one knot if there are four inputs at least."""
    return form_from(size, *(((which, which + 1), Q1) for which in range(size - 1)))


def whole_points(size, numbers):
    return [tuple((entry, 1) for entry in point) for point in product(numbers, repeat=size)]


def some_box(rng, size):
    """A box with small ends, some sides not wide, some from or to 0."""
    sides = []
    for _ in range(size):
        ends = sorted(Fraction(rng.choice((-2, -1, 0, 0, 1, 2, 3)), rng.choice((1, 1, 2))) for _ in range(2))
        if rng.random() < 0.2:
            ends[1] = ends[0]
        sides.append((quot(ends[0]), quot(ends[1])))
    return tuple(sides)


def bent_form(rng, size):
    """A form with few terms, often not of first degree."""
    bundles = [tuple(rng.randrange(size) for _ in range(rng.randint(0, 3))) for _ in range(rng.randint(1, 4))]
    return form_from(size, *((bundle, rng.choice((Q1, MINUS, Q2, HALF))) for bundle in bundles))


def some_form(rng, size):
    """A form of this size at most: bare, bent or of first degree."""
    chance = rng.random()
    if chance < 0.1:
        return bare_form(size, rng.choice((Q0, Q1, (-3, 2))))
    return bent_form(rng, size) if chance < 0.3 else random_structured(rng, most=size)


def some_kind(rng, size):
    return kind_of(some_form(rng, size))


def replaced_slowly(form, size, forms):
    """The form with forms of this size in the places of its inputs, multiplied out term by term."""
    found = bare_form(size, Q0)
    for bundle, quotient in form[1]:
        term = bare_form(size, quotient)
        for which in bundle:
            term = form_times(term, forms[which])
        found = form_plus(found, term)
    return found


def renamed_slowly(form, size, places):
    """The form of this size in which each input i is called places[i]."""
    return form_from(size, *((tuple(places[which] for which in bundle), quotient) for bundle, quotient in form[1]))
