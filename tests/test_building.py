import unittest
from random import Random

from sevenruns.building import plain_of, program_by, program_of
from sevenruns.copies import copies_of
from sevenruns.errors import Bent, Knotted
from sevenruns.expanding import form_of, forms_of
from sevenruns.formfacts import hangs_on
from sevenruns.kindforms import form_by
from sevenruns.kindmaking import kind_of
from sevenruns.kindthings import lot_of
from sevenruns.nodes import breadth_by, case_by, knots_of
from sevenruns.programs import breadth_of, is_plain, is_program
from sevenruns.shapes import shape_at, shape_count
from sevenruns.trues import exact_on
from sevenruns.verdicts import is_exact
from tests.kind_samples import BARE_KIND, BENT_KIND, GAP_KIND, NESTED_TREE, PAIRS_KIND, SQUARE_KIND, TIGHT_KIND, dense_form, path_form
from tests.kind_samples import random_structured, small_kinds
from tests.samples import NOTHINGS, PAIRS, Q0, Q1, Q2, check_raises, check_refused, random_box
from tests.test_shapes import FIVE, shape_lot

NESTED = ("first", Q1, Q2, NESTED_TREE)
NO_SIZES = NOTHINGS + (0, -1, Q1, (3,), [3], "3")
NO_SHAPES = NOTHINGS + (0, (), (0, 1, 2), ((0, 1), 2))


def lots_in(shape):
    if isinstance(shape, int):
        return []
    return [shape_lot(shape)] + [lot for part in shape for lot in lots_in(part)]


class Building(unittest.TestCase):
    def check_program(self, kind, size, program):
        """The program has the kind's value, is exact, has no needless breadth, and no mix without a knot."""
        self.assertIs(is_program(program), True)
        self.assertEqual(program[0], size)
        self.assertLessEqual(len(program[1]), 40)
        self.assertEqual(form_of(program), form_by(kind, size))
        self.assertLessEqual(breadth_of(program), breadth_by(kind))
        self.assertIs(is_plain(program), case_by(kind) != "knotted")
        if is_plain(program):
            self.assertIs(is_exact(program), True)
        # Each input once, or not at all: nothing is lost on any box, so neither with a mix.
        self.assertEqual(tuple(sorted(copies_of(program))), lot_of(kind))
        rng = Random(181)
        for _ in range(4):
            self.assertIs(exact_on(program, random_box(rng, size)), True)

    def test_programs_of_all_kinds(self):
        for kind in small_kinds() + [BARE_KIND, ("bare", Q0)]:
            for size in {8, lot_of(kind)[-1] + 1 if lot_of(kind) else 1}:
                self.check_program(kind, size, program_of(kind=kind, size=size))
                if case_by(kind) != "knotted":
                    self.check_program(kind, size, plain_of(kind=kind, size=size))

    def test_programs_of_all_shapes(self):
        for kind in small_kinds() + [FIVE]:
            count = shape_count(kind)
            for number in range(0, count, 1 + count // 20):
                shape = shape_at(kind, number)
                program = program_by(kind=kind, size=8, shape=shape)
                self.check_program(kind, 8, program)
                hung = [hangs_on(form) for form in forms_of(program)]
                for lot in lots_in(shape):
                    self.assertIn(lot, hung)

    def test_programs_of_forms(self):
        rng = Random(182)
        forms = [random_structured(rng, most=8) for _ in range(60)]
        for form in forms + [dense_form(5), path_form(8), dense_form(8)]:
            kind = kind_of(form)
            self.check_program(kind, form[0], program_of(kind, form[0]))
        # As many lines as it takes, but not more than forty, with all shifts, scales and bases there can be.
        tree = 0
        for k in range(1, 8):
            tree = ("product", (((k, 11), tree), ((1, k), k))) if k % 2 else ("sum", ((2, tree), (-3, k)))
        kind = ("first", (1, 3), (-2, 5), tree)
        self.check_program(kind, 8, program_of(kind, 8))

    def test_an_input_alone(self):
        for size in (1, 4):
            self.check_program(("first", Q0, Q1, 0), size, plain_of(("first", Q0, Q1, 0), size))
            self.check_program(("first", Q0, (-1, 1), 0), size, program_by(("first", Q0, (-1, 1), 0), size, 0))
            self.check_program(("first", Q2, Q1, 0), size, program_of(("first", Q2, Q1, 0), size))

    def test_knotted(self):
        check_raises(self, Knotted, {"lot": (0, 1, 2)}, plain_of, kind_of(PAIRS), 3)
        check_raises(self, Knotted, {"lot": knots_of(NESTED)[0][0]}, plain_of, NESTED, 7)
        sides = ("first", Q0, Q1, ("sum", ((1, 0), (1, ("knot", (1, 2, 3), PAIRS_KIND[3][2])), (1, ("knot", (4, 5, 6), PAIRS_KIND[3][2])))))
        check_raises(self, Knotted, {"lot": (1, 2, 3)}, plain_of, sides, 8)

    def test_refused(self):
        for kind, least in ((TIGHT_KIND, 3), (PAIRS_KIND, 3), (BARE_KIND, 1), (BENT_KIND, 2), (SQUARE_KIND, 1)):
            for size in NO_SIZES + tuple(range(least)):
                for function in (program_of, plain_of):
                    check_refused(self, function, {"kind": kind, "size": size}, "size")
                for shape in ((0, (1, 2)), (0, 1, 2), None):
                    check_refused(self, program_by, {"kind": kind, "size": size, "shape": shape}, "size")
        for shape in NO_SHAPES:
            check_refused(self, program_by, {"kind": TIGHT_KIND, "size": 3, "shape": shape}, "shape")
            check_refused(self, program_by, {"kind": BARE_KIND, "size": 3, "shape": shape}, "shape")
        check_refused(self, program_by, {"kind": PAIRS_KIND, "size": 3, "shape": (0, (1, 2))}, "shape")
        for function in (program_of, plain_of):
            check_raises(self, Bent, {"which": 1}, function, BENT_KIND, 2)
        # Bent stands behind the size, ahead of the shape.
        for shape in NO_SHAPES:
            check_raises(self, Bent, {"which": 0}, program_by, SQUARE_KIND, 3, shape)

    def test_kinds_with_gaps(self):
        kind = ("first", GAP_KIND[1], GAP_KIND[2], ("sum", ((2, 1), (-3, ("product", (((1, 2), 4), (Q0, 7)))))))
        self.check_program(kind, 8, plain_of(kind, 8))
