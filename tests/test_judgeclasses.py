import unittest

from sevenruns.errors import Bent
from sevenruns.exactpapers import exact_paper
from sevenruns.judgeclasses import Judge
from sevenruns.losschecker import lets_loss
from sevenruns.tolds import told_span
from sevenruns.trues import lost_on, true_span
from tests.loss_samples import BENT_ONES, BOX_ONES, NOUGHT_ONES
from tests.samples import MIXED, MIXING, NOTHINGS, Q0, Q1, SPREAD, SQUARE, THRICE, TIGHT, UNIT, Wrong, check_raises, check_refusals
from tests.samples import check_refused, no_boxes
from tests.verdict_samples import EXACT, FAULTY

THREE = (UNIT, ((-1, 1), Q1), UNIT)


class Judges(unittest.TestCase):
    def test_spans(self):
        for program in (TIGHT, SPREAD, MIXING):
            judge = Judge(program)
            self.assertEqual(judge.told(THREE), told_span(program, THREE))
            self.assertEqual(judge.told(box=THREE), told_span(program, THREE))
            self.assertEqual(judge.true(box=THREE), true_span(program, THREE))
            self.assertEqual(judge.lost(box=THREE), lost_on(program, THREE))
        self.assertEqual(Judge(MIXING).lost((UNIT,) * 3), (Q1, Q1))
        self.assertEqual(Judge(SQUARE).told((((-1, 1), Q1),)), ((-1, 1), Q1))

    def test_verdicts(self):
        for program, paper in EXACT:
            judge = Judge(program=program)
            self.assertIs(judge.exact(), True)
            self.assertIsNone(judge.fault())
            self.assertEqual(judge.paper(), paper)
        for program, fault in FAULTY:
            self.assertIs(Judge(program).exact(), False)
            self.assertEqual(Judge(program).fault(), fault)
        for program in BENT_ONES + BOX_ONES + tuple(program for program, _ in NOUGHT_ONES):
            paper = Judge(program).paper()
            self.assertEqual(lets_loss(program, paper), paper[0])
        self.assertEqual(Judge(THRICE).paper(), exact_paper(THRICE))

    def test_equal(self):
        self.assertIs(Judge(TIGHT) == Judge((3, TIGHT[1])), True)
        self.assertIs(Judge(TIGHT) != Judge(TIGHT), False)
        self.assertIs(Judge(TIGHT) == Judge(SPREAD), False)
        self.assertIs(Judge(TIGHT) == Judge((4, (("add", 1, 2), ("mul", 0, 4)))), False)
        for other in (TIGHT, None, True, (), 0, Wrong(), Judge):
            self.assertIs(Judge(TIGHT) == other, False)

    def test_refused(self):
        for program in NOTHINGS + (MIXED, 0, (), (3,), (0, TIGHT[1]), (3, ()), (3, list(TIGHT[1])), (1, (("mul", 0, 1),)), (3, TIGHT[1], 0)):
            check_refused(self, Judge, {"program": program}, "program")
        judge, bent = Judge(TIGHT), Judge(SQUARE)
        for method in (judge.told, judge.true, judge.lost):
            check_refusals(self, method, {"box": (UNIT,) * 3}, {"box": no_boxes(3)})
        for method in (bent.true, bent.lost):
            check_refusals(self, method, {"box": (UNIT,)}, {"box": no_boxes(1)})
            check_raises(self, Bent, {"which": 0}, method, ((Q0, Q1),))
