import unittest
from random import Random

from sevenruns.boxes import corners_of
from sevenruns.errors import Bent
from sevenruns.expanding import form_of
from sevenruns.formfacts import is_first
from sevenruns.tolds import told_span
from sevenruns.trues import exact_on, lost_on, true_span
from tests.samples import MIXED, MIXING, Q0, Q1, Q2, SPREAD, SQUARE, TIGHT, UNIT, check_raises, check_refusals, frac, no_boxes
from tests.samples import plain_run, quot, random_box, random_program

THREE = (UNIT, UNIT, UNIT)
LOSING = (((-1, 1), Q1), (Q1, Q1), ((-1, 1), (-1, 1)))
FUNCTIONS = (true_span, lost_on, exact_on)


class Trues(unittest.TestCase):
    def test_examples(self):
        self.assertEqual(true_span(MIXING, THREE), ((0, 1), (1, 1)))
        self.assertEqual(lost_on(MIXING, THREE), ((1, 1), (1, 1)))
        self.assertEqual(told_span(SPREAD, LOSING), ((-2, 1), (2, 1)))
        self.assertEqual(true_span(SPREAD, LOSING), (Q0, Q0))

    def test_exact_on(self):
        self.assertIs(exact_on(MIXING, THREE), False)
        self.assertIs(exact_on(SPREAD, LOSING), False)
        self.assertIs(exact_on(SPREAD, THREE), True)
        self.assertIs(exact_on(TIGHT, LOSING), True)
        self.assertIs(exact_on(program=MIXING, box=((Q2, Q2),) * 3), True)

    def test_mixes_are_let(self):
        box = (((-1, 1), Q1), UNIT)
        self.assertEqual(true_span(MIXED, box), ((-2, 1), (4, 1)))
        self.assertEqual(lost_on(MIXED, box), (Q0, Q0))
        # x0 + x0, each read by itself, less x0 twice.
        mixed = (1, (("mix", (0, 0), (Q0, Q2, (-1, 1), Q0)),))
        self.assertEqual(true_span(mixed, (UNIT,)), UNIT)
        self.assertEqual(lost_on(mixed, (UNIT,)), (Q1, Q1))
        self.assertIs(exact_on(mixed, (UNIT,)), False)

    def test_loss_at_one_end_alone(self):
        # x0 x1 + x0 at x0 from 0 to 1: nothing is lost above, as x0 is 1 there in both.
        program = (2, (("mul", 0, 1), ("add", 2, 0)))
        self.assertEqual(lost_on(program, (UNIT, ((-1, 1), (-1, 1)))), (Q1, Q1))
        self.assertEqual(lost_on(program, (UNIT, ((-1, 1), Q1))), (Q1, Q0))

    def test_as_reckoned_at_corners(self):
        rng = Random(41)
        done = 0
        while done < 150:
            program = random_program(rng, words=("add", "sub", "mul", "num", "mix"))
            if not is_first(form_of(program)):
                continue
            box = random_box(rng, program[0])
            values = [plain_run(program, corner)[-1] for corner in corners_of(box)]
            self.assertEqual(true_span(program=program, box=box), (quot(min(values)), quot(max(values))))
            near, far = told_span(program, box)
            lost = (quot(min(values) - frac(near)), quot(frac(far) - max(values)))
            self.assertEqual(lost_on(program=program, box=box), lost)
            self.assertIs(exact_on(program, box), lost == (Q0, Q0))
            self.assertTrue(lost[0][0] >= 0 and lost[1][0] >= 0)
            done += 1

    def test_refused(self):
        bent = (2, (("mul", 1, 1), ("add", 2, 0)))
        for function in FUNCTIONS:
            check_refusals(self, function, {"program": SPREAD, "box": THREE}, {"box": no_boxes(3)})
            check_refusals(self, function, {"program": bent, "box": (UNIT, UNIT)}, {"box": no_boxes(2)})
            check_raises(self, Bent, {"which": 1}, function, bent, (UNIT, UNIT))
            check_raises(self, Bent, {"which": 0}, function, SQUARE, ((Q1, Q1),))
