import unittest

from sevenruns.errors import InvalidPaper
from sevenruns.losschecker import lets_loss
from tests.samples import HIDDEN, MIXED, NOTHINGS, Q0, Q1, Q2, SPREAD, SQUARE, TIGHT, UNIT, check_raises, check_refused, no_boxes
from tests.samples import no_points
from tests.verdict_samples import EXACT

LOSING = (((-1, 1), Q1), (Q1, Q1), ((-1, 1), (-1, 1)))
NOUGHT = (2, (("sub", 0, 0), ("mul", 1, 2), ("add", 1, 3)))
NO_LINES = NOTHINGS + (-1, 3, Q0, (0,), "0")


class LossChecker(unittest.TestCase):
    def refused(self, program, thing, word):
        check_raises(self, InvalidPaper, {"word": word, "at": -1}, lets_loss, program, thing)

    def test_examples(self):
        self.assertEqual(lets_loss(SPREAD, ("box", (((-1, 1), Q1), (Q1, Q1), ((-1, 1), (-1, 1))))), "box")
        self.assertEqual(lets_loss((2, (("sub", 0, 0), ("mul", 1, 2), ("add", 1, 3))), ("nought", 0)), "nought")

    def test_accepted(self):
        self.assertEqual(lets_loss(program=SQUARE, thing=("bent", ((5, 2),), 0)), "bent")
        self.assertEqual(lets_loss((2, (("mul", 0, 1), ("mul", 2, 1))), ("bent", (Q1, Q0), 1)), "bent")
        # Several wide sides.
        self.assertEqual(lets_loss(SPREAD, ("box", (((-1, 1), Q1), UNIT, ((-1, 1), Q0)))), "box")
        # A nought line that counts and is read by an add, or is the last one.
        self.assertEqual(lets_loss((1, (("sub", 0, 0), ("add", 0, 1))), ("nought", 0)), "nought")
        self.assertEqual(lets_loss((1, (("sub", 0, 0),)), ("nought", 0)), "nought")
        self.assertEqual(lets_loss(NOUGHT, ("nought", 1)), "nought")

    def test_shape(self):
        for thing in (None, True, 0, "", "bent", "box", (), [], ["box", LOSING], ("box",), ("box", LOSING, 0), ("nought",), ("nought", 0, 0),
                      ("bent", (Q0,) * 3), ("bent", (Q0,) * 3, 0, 0), ("bent",), ("other", 0), (None, 0), (["box"], LOSING), (0, 0),
                      (("box",), LOSING)):
            self.refused(SPREAD, thing, "shape")
            self.refused(TIGHT, thing, "shape")

    def test_bent(self):
        for point in no_points(1):
            self.refused(SQUARE, ("bent", point, 0), "point")
            self.refused(SQUARE, ("bent", point, 1), "point")
        for which in NOTHINGS + (-1, 1, Q0, (0,)):
            self.refused(SQUARE, ("bent", (Q0,), which), "which")
        product = (2, (("mul", 0, 1), ("mul", 2, 1)))
        self.refused(product, ("bent", (Q0, Q1), 1), "straight")
        self.refused(product, ("bent", (Q1, Q1), 0), "straight")
        self.refused(TIGHT, ("bent", (Q1, Q2, Q2), 0), "straight")
        self.refused(product, ("bent", (Q0, Q1), 2), "which")

    def test_nought(self):
        for line in NO_LINES:
            self.refused(NOUGHT, ("nought", line), "line")
        # Lines that do not count, or carry nothing though they count and are nought.
        self.refused((1, (("sub", 0, 0), ("add", 0, 0))), ("nought", 0), "line")
        self.refused((1, (("num", Q0), ("add", 0, 1))), ("nought", 0), "line")
        self.refused((1, (("num", Q0), ("mul", 0, 1))), ("nought", 1), "line")
        self.refused(HIDDEN, ("nought", 2), "line")
        self.refused((2, (("num", Q0), ("sub", 0, 0), ("mul", 2, 3), ("add", 4, 1))), ("nought", 1), "line")
        # Lines that are not nought, also nought at many points alone.
        self.refused(NOUGHT, ("nought", 2), "some")
        self.refused(SPREAD, ("nought", 0), "some")
        self.refused((1, (("mul", 0, 0), ("sub", 1, 0), ("add", 2, 0))), ("nought", 1), "some")

    def test_box(self):
        for box in no_boxes(3):
            self.refused(SPREAD, ("box", box), "box")
        for box in no_boxes(1):
            self.refused(SQUARE, ("box", box), "box")
        self.refused(SQUARE, ("box", (UNIT,)), "curved")
        self.refused(SQUARE, ("box", (((-1, 1), Q1),)), "curved")
        self.refused((2, (("mul", 1, 1), ("add", 2, 0))), ("box", (UNIT, (Q0, Q0))), "curved")
        self.refused(SPREAD, ("box", (UNIT, UNIT, UNIT)), "exact")
        self.refused(SPREAD, ("box", ((Q1, Q1), ((-1, 1), Q1), ((-1, 1), Q1))), "exact")
        self.refused(TIGHT, ("box", LOSING), "exact")

    def test_nothing_is_accepted_of_exact_ones(self):
        for program, _ in EXACT:
            size = program[0]
            if len(program[1]) < 20:
                self.refused(program, ("box", (((-1, 1), Q2),) * size), "exact")
                self.refused(program, ("bent", (Q1,) * size, 0), "straight")
                for line in range(len(program[1])):
                    with self.assertRaises(InvalidPaper) as caught:
                        lets_loss(program, ("nought", line))
                    self.assertIn(caught.exception.word, ("line", "some"))

    def test_refused_program_first(self):
        for thing in (None, ("box", None), ("bent", None, None), ("nought", None)):
            check_refused(self, lets_loss, {"program": MIXED, "thing": thing}, "program")
