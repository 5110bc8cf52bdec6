import unittest
from random import Random

from sevenruns.coding import code_of
from sevenruns.errors import Bent
from sevenruns.rowspans import row_spans
from sevenruns.widthpapers import width_paper
from tests.code_samples import BOX, CODE, LOOSE, LOOSE_BOX, SQUARE_CODE, code_values, random_code, some_whole_box, whole_box_corners, whole_box_of
from tests.code_samples import whole_box_points, whole_point
from tests.kind_samples import HALF, PAIRS_KIND, TIGHT_KIND
from tests.samples import NOTHINGS, Q0, Q1, UNIT, check_raises, check_refusals, no_boxes

HALVES = ((UNIT, (Q0, HALF)), ((HALF, Q1), UNIT), (UNIT, (HALF, HALF)))
# Rows that are bent in x1, then in x0; one whose square falls out again.
BENT_LATE = (2, 1, (("in", 0, 0, 1), ("in", 1, 0, 1), ("mul", 0, 1, 1), ("mul", 2, 1, 1), ("mul", 0, 0, 1)))
BENT_BOTH = (2, 1, (("in", 1, 0, 1), ("in", 0, 0, 1), ("mul", 0, 1, 1), ("mul", 2, 2, 1)))
NOUGHT_SQUARE = (1, 1, (("in", 0, 0, 3), ("sub", 0, 0, 3), ("mul", 0, 1, 3), ("mul", 2, 0, 3), ("add", 3, 0, 3)))

# Numbers that are nought together: what they are multiplied with is not bent.
NOUGHT_NUMBERS = (1, 3, (("num", 4, 0, 9), ("num", 2, 0, 9), ("mul", 1, 1, 9), ("sub", 0, 2, 9), ("in", 0, 0, 9), ("mul", 3, 4, 9), ("mul", 5, 4, 9), ("add", 6, 0, 9)))


def spans_slowly(code, box):
    """For each row the least and the greatest value at all points of whole quotients in the box."""
    rows = list(zip(*(code_values(code, numbers) for numbers in whole_box_points(box))))
    return tuple((min(values), max(values)) for values in rows)


def is_corner(box, point):
    return len(point) == len(box) and all(entry in side for entry, side in zip(point, box))


class RowSpans(unittest.TestCase):
    def test_example(self):
        self.assertEqual(row_spans(CODE, BOX), ((0, 3), (0, 3), (0, 9), (-3, 6)))

    def test_by_hand(self):
        self.assertEqual(row_spans(code=LOOSE, box=LOOSE_BOX), ((-7, -7), (-3, -1), (0, 0), (-3, -1), (-6, -2), (0, 0), (1, 5), (7, 21), (-2, 1), (-1, 6)))
        self.assertEqual(row_spans(CODE, whole_box_of((2, 2), (-1, -1))), ((2, 2), (-1, -1), (-2, -2), (-4, -4)))
        self.assertEqual(row_spans(NOUGHT_SQUARE, whole_box_of((-2, 5))), ((-2, 5), (0, 0), (0, 0), (0, 0), (-2, 5)))
        self.assertEqual(row_spans(NOUGHT_NUMBERS, whole_box_of((-2, 5))), ((4, 4), (2, 2), (4, 4), (0, 0), (-2, 5), (0, 0), (0, 0), (4, 4)))

    def test_as_at_all_points(self):
        rng = Random(801)
        for _ in range(200):
            code = random_code(rng)
            box = some_whole_box(rng, code[0], reach=2)
            self.assertEqual(row_spans(code, box), spans_slowly(code, box))

    def test_eight_wide_sides(self):
        rows = tuple(("in", k, 0, 1) for k in range(8)) + (("mul", 0, 1, 1),) + tuple(("mul", k + 6, k, 1) for k in range(2, 8))
        self.assertEqual(row_spans((8, 1, rows), whole_box_of(*((-2, 3),) * 8))[-1], (-2 * 3 ** 7, 3 ** 8))

    def test_bent(self):
        for function in (row_spans, width_paper):
            check_raises(self, Bent, {"which": 1}, function, BENT_LATE, BOX)
            check_raises(self, Bent, {"which": 0}, function, BENT_BOTH, BOX)
            check_raises(self, Bent, {"which": 1}, function, SQUARE_CODE, BOX)
            check_raises(self, Bent, {"which": 0}, function, (1, 1, (("in", 0, 0, 1), ("mul", 0, 0, 1), ("in", 0, 0, 1))), (UNIT,))

    def test_refused(self):
        for function in (row_spans, width_paper):
            # A bent code comes behind a box that is none.
            for code in (CODE, BENT_LATE):
                for box in no_boxes(2) + HALVES:
                    with self.assertRaises(ValueError) as caught:
                        function(code, box)
                    self.assertEqual((caught.exception.word, caught.exception.at), ("box", -1))
            check_refusals(self, function, {"code": CODE, "box": BOX}, {"box": no_boxes(2) + HALVES + NOTHINGS + ((),)})


class WidthPapers(unittest.TestCase):
    def check_paper(self, code, box):
        paper = width_paper(code=code, box=box)
        self.assertIs(paper.__class__, tuple)
        self.assertEqual(len(paper), len(code[2]))
        spans = spans_at_corners(code, box)
        for k, entry in enumerate(paper):
            self.assertEqual((entry.__class__, len(entry)), (tuple, 2))
            self.assertTrue(all(is_corner(box, point) for point in entry))
            values = [code_values(code, tuple(top for top, _ in point))[k] for point in entry]
            self.assertEqual(tuple(values), spans[k])

    def test_by_hand(self):
        for code, box in ((CODE, BOX), (CODE, whole_box_of((-5, -2), (0, 0))), (LOOSE, LOOSE_BOX), (NOUGHT_SQUARE, (UNIT,)), (CODE, whole_box_of((2, 2), (2, 2)))):
            self.check_paper(code, box)

    def test_others(self):
        rng = Random(811)
        for _ in range(150):
            code = random_code(rng)
            self.check_paper(code, some_whole_box(rng, code[0]))
        for kind in (TIGHT_KIND, PAIRS_KIND):
            for size in (3, 8):
                box = some_whole_box(rng, size)
                self.check_paper(code_of(kind, box), box)


def spans_at_corners(code, box):
    rows = list(zip(*(code_values(code, numbers) for numbers in whole_box_corners(box))))
    return [(min(values), max(values)) for values in rows]


class WholePoints(unittest.TestCase):
    def test_points_of_papers_are_points(self):
        for entry in width_paper(CODE, BOX):
            self.assertEqual(entry, tuple(whole_point([top for top, _ in point]) for point in entry))
