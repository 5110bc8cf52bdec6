import unittest
from random import Random

from sevenruns.codethings import is_code
from sevenruns.coding import code_of
from sevenruns.errors import Bent
from sevenruns.kindmaking import kind_of
from sevenruns.kindthings import is_kind
from sevenruns.machine import run_code
from tests.code_samples import BOX, code_values, some_whole_box, whole_box_corners, whole_box_of, whole_point, width_slowly
from tests.kind_samples import BARE_KIND, BENT_KIND, FIRST_KINDS, GAP_KIND, HALF, HAND_FORMS, MINUS, NESTED_TREE, PAIRS_KIND, PATH_TREE, SHIFTED, SQUARE_KIND
from tests.kind_samples import TIGHT_KIND, cycle_form, dense_form, lot_slowly, path_form, random_structured, value_slowly
from tests.samples import NOTHINGS, Q0, Q1, Q2, UNIT, check_raises, check_refusals, quot

X = ("first", Q0, Q1, 0)
# Scales, bases and shifts with bottoms of all sorts.
BOTTOMS = (
    ("first", (1, 2), MINUS, 0), ("first", (1, 6), (-4, 15), 2), ("first", (-3, 4), (5, 6), ("sum", ((2, 0), (-3, 1), (7, 2)))),
    ("first", (2, 3), (9, 4), ("product", ((HALF, 0), ((-2, 3), 1), (Q0, 2)))),
    ("first", (1, 10), (3, 7), ("sum", ((4, ("product", ((HALF, 0), ((1, 3), 1)))), (-3, ("product", (((1, 5), 2), (Q1, 3))))))),
    ("first", HALF, (10, 1), ("product", ((HALF, ("sum", ((1, ("product", ((HALF, 0), (HALF, 1)))), (3, 2)))), ((1, 4), 3)))),
    ("first", (5, 1), (6, 1), SHIFTED), ("first", (1, 7), (-2, 1), PATH_TREE), ("first", Q1, (1, 12), NESTED_TREE),
)
# Knots of three to eight sons.
KNOTS = tuple(kind_of(form) for form in (dense_form(3), dense_form(4), dense_form(5), cycle_form(5), cycle_form(6), path_form(6), cycle_form(7), path_form(7), dense_form(7),
                                        cycle_form(8), path_form(8), dense_form(8)))


def trees_slowly(tree):
    """All trees in a tree, itself ahead."""
    if isinstance(tree, int):
        return [tree]
    return [tree] + [own for son in (tree[1] if tree[0] == "knot" else [row[1] for row in tree[1]]) for own in trees_slowly(son)]


def most_rows(kind):
    """The greatest number of rows that a code of the kind may have."""
    trees = trees_slowly(kind[3])
    places = sum(len(lot) for tree in trees if not isinstance(tree, int) and tree[0] == "knot" for lot, _ in tree[2])
    return 6 * len(trees) + 6 * places + 6


def hung_slowly(code):
    """For each row of a code all of whose rows are of first degree as they stand: the set of the inputs that it reads, over others or not."""
    hung = []
    for word, one, other, _ in code[2]:
        hung.append({one} if word == "in" else set() if word == "num" else hung[one] | hung[other])
    return hung


class Codes(unittest.TestCase):
    def check_code(self, kind, box):
        """The code is as [79] says; its widths are tried at all corners of the sides that it reads."""
        code = code_of(kind, box)
        self.assertTrue(is_code(code))
        self.assertEqual(code[0], len(box))
        self.assertLessEqual(len(code[2]), most_rows(kind))
        read = {place for word, one, other, _ in code[2] if word not in ("in", "num") for place in (one, other)}
        self.assertEqual(read, set(range(len(code[2]) - 1)))
        self.check_widths(code, box)
        return code

    def check_widths(self, code, box):
        hung = hung_slowly(code)
        for word, one, other, _ in code[2]:
            # No row is read twice over in a product, so each is of first degree.
            self.assertFalse(word == "mul" and hung[one] & hung[other])
        inputs = sorted(hung[-1])
        if 2 ** sum(box[which][0] != box[which][1] for which in inputs) > 2 ** 8:
            return
        least = [None] * len(code[2])
        greatest = [None] * len(code[2])
        numbers = [near[0] for near, _ in box]
        for corner in whole_box_corners([box[which] for which in inputs]):
            for which, number in zip(inputs, corner):
                numbers[which] = number
            for k, value in enumerate(code_values(code, numbers)):
                least[k] = value if least[k] is None else min(least[k], value)
                greatest[k] = value if greatest[k] is None else max(greatest[k], value)
        self.assertEqual([row[3] for row in code[2]], [width_slowly(low, high) for low, high in zip(least, greatest)])

    def check_values(self, kind, code, rng, reach=6):
        """The value is the kind's, also out of the box, widths left aside."""
        wide = (code[0], code[1], tuple(row[:3] + (4000,) for row in code[2]))
        for _ in range(6):
            point = whole_point([rng.randint(-reach, reach) for _ in range(code[0])])
            self.assertEqual(run_code(wide, point), quot(value_slowly(kind, point)))

    def test_examples(self):
        self.assertEqual(run_code(code_of(("first", HALF, MINUS, 0), (((0, 1), (4, 1)),)), ((3, 1),)), (-5, 2))
        self.assertEqual(code_of(("bare", (-5, 2)), (((0, 1), (4, 1)),)), (1, 2, (("num", -5, 0, 4),)))

    def test_bare_kinds(self):
        for quotient, width in ((Q0, 1), (Q1, 2), (MINUS, 1), ((-5, 2), 4), ((7, 9), 4), ((8, 9), 5), ((-8, 1), 4), ((-9, 4), 5), ((10 ** 12, 1), 41)):
            for box in ((UNIT,), (UNIT,) * 40, whole_box_of((3, 3), (-9, 9))):
                self.assertEqual(code_of(kind=("bare", quotient), box=box), (len(box), quotient[1], (("num", quotient[0], 0, width),)))

    def test_an_input_alone(self):
        for which in (0, 1, 39):
            for low, high, width in ((0, 0, 1), (0, 1, 2), (-1, 0, 1), (-4, -2, 3), (-4, 4, 4), (5, 5, 4)):
                box = (UNIT,) * which + whole_box_of((low, high))
                self.assertEqual(code_of(("first", Q0, Q1, which), box), (which + 1, 1, (("in", which, 0, width),)))

    def test_kinds_by_hand(self):
        rng = Random(791)
        for kind in FIRST_KINDS + BOTTOMS + KNOTS:
            size = lot_slowly(kind)[-1] + 1
            for more in (0, 40 - size):
                code = self.check_code(kind, some_whole_box(rng, size + more))
                self.check_values(kind, code, rng)

    def test_knots_have_sons_of_all_numbers(self):
        sons = {len(tree[1]) for kind in KNOTS for tree in trees_slowly(kind[3]) if not isinstance(tree, int) and tree[0] == "knot"}
        self.assertEqual(sons, {3, 4, 5, 6, 7, 8})
        for kind in KNOTS:
            self.assertTrue(is_kind(kind))
            self.check_code(kind, whole_box_of(*((-1, 2),) * 8))

    def test_forms(self):
        rng = Random(792)
        for form, kind in HAND_FORMS + tuple((form, kind_of(form)) for form in (random_structured(rng, most=7) for _ in range(250))):
            if kind[0] == "first":
                self.check_values(kind, self.check_code(kind, some_whole_box(rng, form[0])), rng)

    def test_rows_of_one_sign_and_of_nought(self):
        # All values of a row below 0, at 0, or one value alone.
        for sides in (((0, 0),) * 3, ((-3, -1),) * 3, ((2, 2),) * 3, ((0, 0), (-3, 5), (1, 1)), ((-7, -7), (0, 4), (-1, 0)), ((-1, -1), (1, 1), (0, 0))):
            for kind in (TIGHT_KIND, PAIRS_KIND, ("first", (-1, 2), (2, 3), TIGHT_KIND[3]), ("first", HALF, MINUS, PAIRS_KIND[3])) + BOTTOMS:
                size = lot_slowly(kind)[-1] + 1
                self.check_code(kind, whole_box_of(*sides, *((0, 1),) * max(0, size - 3)))

    def test_least_widths_where_terms_have_sons_in_common(self):
        # x0 x1 + x0 x2 + x1 x2 on 0 to 3: partial sums go together, so they are told by all ends, not one by one.
        kind = ("first", Q0, Q1, ("knot", (0, 1, 2), (((0, 1), 1), ((0, 2), -1), ((1, 2), 1))))
        box = whole_box_of((0, 3), (0, 3), (0, 3))
        self.check_code(kind, box)
        self.assertEqual(max(row[3] for row in code_of(kind, box)[2]), 5)

    def test_great_ends(self):
        big = ((-10 ** 12, 1), (10 ** 12, 1))
        for kind in (TIGHT_KIND, PAIRS_KIND, GAP_KIND, ("first", (-1, 10 ** 12), (10 ** 12, 7), 0)):
            self.check_code(kind, (big,) * 40)

    def test_bent(self):
        check_raises(self, Bent, {"which": 0}, code_of, SQUARE_KIND, (UNIT,))
        check_raises(self, Bent, {"which": 1}, code_of, BENT_KIND, BOX)
        check_raises(self, Bent, {"which": 39}, code_of, ("bent", (40, (((39, 39), Q1),))), (UNIT,) * 40)

    def test_refused(self):
        short = ((), (UNIT,), [UNIT] * 3, (UNIT,) * 41, (UNIT, UNIT, None), (UNIT, UNIT, (Q0, (1, 2))), ((HALF, Q1), UNIT, UNIT), (UNIT, (Q1, Q0), UNIT),
                 (UNIT, UNIT, (Q0, (True, 1))), (UNIT, UNIT, UNIT, (HALF, HALF)), (Q0, Q1, Q2))
        for kind in (TIGHT_KIND, PAIRS_KIND):
            check_refusals(self, code_of, {"kind": kind, "box": (UNIT,) * 3}, {"box": NOTHINGS + short})
        check_refusals(self, code_of, {"kind": X, "box": BOX}, {"box": NOTHINGS + ((), ((HALF, Q1),))})
        check_refusals(self, code_of, {"kind": BARE_KIND, "box": BOX}, {"box": NOTHINGS + ((), (UNIT,) * 41, ((HALF, HALF),), (UNIT, (Q0, (3, 2))))})
        # Ahead of a bent kind.
        for box in ((), (UNIT,), (UNIT, (HALF, Q1)), None):
            with self.assertRaises(ValueError) as caught:
                code_of(BENT_KIND, box)
            self.assertEqual((caught.exception.word, caught.exception.at), ("box", -1))
