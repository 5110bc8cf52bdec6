"""[84], and (G13) and (G15) where they are about codes."""

import unittest
from random import Random

from sevenruns.codetexts import code_text, read_code
from sevenruns.coding import code_of
from sevenruns.errors import Broken, Trapped
from sevenruns.kindmaking import kind_of
from sevenruns.kindthings import value_by
from sevenruns.machine import run_code, trace_code
from sevenruns.packs import joined, pack_of
from sevenruns.unitcode import run_unit_code, unit_code
from sevenruns.unitkinds import kinds_of, place_kinds
from sevenruns.unitruns import run_function
from sevenruns.widthchecker import lets_widths
from sevenruns.widthpapers import width_paper
from sevenruns.widths import narrowed
from tests.code_samples import BOX, CODE, some_whole_box, whole_box_corners, whole_box_of, whole_box_points, whole_point
from tests.kind_samples import BARE_KIND, FIRST_KINDS, HALF, PAIRS_KIND, TIGHT_KIND, lot_slowly, random_structured
from tests.samples import Q0, Q1, check_raises, frac, plain_run
from tests.test_coding import BOTTOMS
from tests.test_unitcode import MANY, SURE, TANK, with_whole_sides
from tests.unit_samples import BOTH, UNITS, random_units, run_slowly, tables, written_slowly

# Codes that others than the package made, with least widths on their boxes, and kinds that have their values.
PRODUCT_OF_SUMS = (4, 1, (("in", 0, 0, 3), ("in", 3, 0, 2), ("sub", 0, 1, 4), ("in", 1, 0, 1), ("in", 2, 0, 3), ("add", 3, 4, 3), ("mul", 2, 5, 5)))
SUMS_KIND = ("first", Q0, Q1, ("product", ((Q0, ("sum", ((1, 0), (-1, 3)))), (Q0, ("sum", ((1, 1), (1, 2)))))))
KNOT_CODE = (3, 2, (("in", 2, 0, 2), ("in", 0, 0, 3), ("in", 1, 0, 3), ("add", 1, 2, 4), ("mul", 0, 3, 4), ("mul", 2, 1, 5), ("add", 4, 5, 5)))
HAND_CODES = (
    (CODE, BOX, ("first", Q0, HALF, ("product", ((Q0, 0), ((-1, 1), 1))))),
    (PRODUCT_OF_SUMS, whole_box_of((-2, 3), (-1, 0), (2, 3), (-1, 1)), SUMS_KIND),
    (KNOT_CODE, whole_box_of((0, 3), (0, 3), (-1, 1)), ("first", Q0, HALF, PAIRS_KIND[3])),
    ((2, 3, (("in", 1, 0, 1), ("num", -4, 0, 3), ("mul", 0, 1, 4), ("num", 4, 0, 4), ("add", 2, 3, 5))), whole_box_of((0, 9), (-1, 0)), ("first", (4, 3), (-4, 3), 1)),
    ((1, 2, (("num", 0, 0, 1), ("num", -1, 0, 1))), whole_box_of((-3, 3)), ("bare", (-1, 2))),
)


def made_codes(seed, many=60):
    """Kinds that are bare or first, boxes of whole ends, and codes that the package made of them."""
    rng = Random(seed)
    kinds = [kind for kind in FIRST_KINDS + BOTTOMS if lot_slowly(kind)[-1] < 8] + [BARE_KIND, ("bare", Q0)]
    kinds += [kind for kind in (kind_of(random_structured(rng, most=5)) for _ in range(many)) if kind[0] != "bent"]
    for kind in kinds:
        size = 1 if kind[0] == "bare" else lot_slowly(kind)[-1] + 1
        box = some_whole_box(rng, size + rng.randint(0, min(1, 8 - size)), reach=1 if size > 4 else 3)
        yield code_of(kind, box), box, kind


class Codes(unittest.TestCase):
    def check_code(self, code, box, kind):
        """At all points of whole quotients each row fits, and the value is the kind's."""
        for numbers in whole_box_points(box):
            point = whole_point(numbers)
            self.assertEqual(len(trace_code(code, point)), len(code[2]))
            self.assertEqual(run_code(code, point), value_by(kind, point))

    def check_least(self, code, box):
        """For each row there are corners at which, with a width less by one, it is the first that does not fit."""
        paper = width_paper(code, box)
        corners = [whole_point(numbers) for numbers in whole_box_corners(box)]
        self.assertEqual(lets_widths(code, box, paper), sum(row[3] for row in code[2]))
        for k, row in enumerate(code[2]):
            if row[3] > 1:
                less = narrowed(code, k)
                short = [corner for corner in paper[k] if len(trace_code(less, corner)) == k]
                self.assertTrue(short)
                for corner in short:
                    self.assertIn(corner, corners)
                    check_raises(self, Trapped, {"row": k}, run_code, less, corner)

    def test_made_by_the_package(self):
        for code, box, kind in made_codes(841):
            self.check_code(code, box, kind)
            self.check_least(code, box)
            self.assertEqual(read_code(code_text(code)), code)

    def test_written_by_hand(self):
        for code, box, kind in HAND_CODES:
            self.check_code(code, box, kind)
            self.check_least(code, box)
            self.assertEqual(read_code(code_text(code)), code)
            # The package's own code of the kind is another one, perhaps, with the same values.
            self.check_code(code_of(kind, box), box, kind)

    def test_forty_inputs(self):
        rng = Random(842)
        for kind in FIRST_KINDS + (TIGHT_KIND,):
            box = some_whole_box(rng, 40)
            code = code_of(kind, box)
            for _ in range(10):
                point = whole_point([rng.randint(near[0], far[0]) for near, far in box])
                self.assertEqual(run_code(code, point), value_by(kind, point))
            self.assertEqual(read_code(code_text(code)), code)


def kept_slowly(rows, pair, point):
    """The least place whose keep does not hold at the point, None if all hold."""
    for place, (near, far) in tables(rows)[pair][3]:
        if not frac(near) <= plain_run(written_slowly(rows, pair, place), point)[-1] <= frac(far):
            return place
    return None


def coded_units(seed, many=80):
    """Units, and pairs of names of functions in them that have codes."""
    rng = Random(seed)
    for rows in [UNITS, BOTH, (TANK,), with_whole_sides(MANY), SURE] + [with_whole_sides(random_units(rng)) for _ in range(many)]:
        for name, own, kind in kinds_of(rows):
            kinds = () if kind is None else place_kinds(rows, name, own)
            if kinds and all(kinds[place][0] != "bent" for place in [-1] + [place for place, _ in tables(rows)[(name, own)][3]]):
                yield rows, (name, own)


class UnitCodes(unittest.TestCase):
    def test_the_function_or_the_least_broken_keep(self):
        met = {}
        for rows, pair in coded_units(843):
            made = unit_code(rows, *pair)
            for numbers in whole_box_points(tables(rows)[pair][1]):
                point = whole_point(numbers)
                place = kept_slowly(rows, pair, point)
                met[place is None] = True
                if place is None:
                    self.assertEqual(run_unit_code(made, point), run_function(rows, *pair, point))
                    self.assertEqual(frac(run_unit_code(made, point)), run_slowly(rows, pair, [frac(entry) for entry in point])[0])
                else:
                    check_raises(self, Broken, {"place": place}, run_unit_code, made, point)
        self.assertEqual(len(met), 2)

    def test_codes_do_not_hang_on_how_units_are_joined(self):
        rng = Random(844)
        for rows, pair in coded_units(845, 25):
            packs = [pack_of((row,)) for row in rows]
            while len(packs) > 1:
                packs.append(joined(packs.pop(rng.randrange(len(packs))), packs.pop(rng.randrange(len(packs)))))
            self.assertEqual(unit_code(packs[0][0], *pair), unit_code(rows, *pair))
