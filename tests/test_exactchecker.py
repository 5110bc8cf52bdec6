import unittest
from random import Random

from sevenruns.errors import InvalidPaper, NotUsable
from sevenruns.exactchecker import lets_exact
from sevenruns.exactpapers import exact_paper
from sevenruns.verdicts import is_exact
from tests.samples import MIXED, MIXING, NO_QUOTIENTS, Q0, Q1, Q2, SPREAD, THRICE, TIGHT, check_raises, check_refusals
from tests.samples import random_program
from tests.verdict_samples import EXACT, FAULTY

ROW = (3, (0, 1), (1, 3))
# 2 (x0 + x1) in line 1, x2 (2 x0 + 2 x1) in line 2, doubled in line 3.
TWICE = (3, (("add", 0, 1), ("add", 3, 3), ("mul", 4, 2), ("add", 5, 5)))
TWICE_PAPER = ((1, (0,), Q1), (1, (1,), Q1), (3, (0, 1, 2), Q1))


class ExactChecker(unittest.TestCase):
    def refused(self, program, thing, word, at):
        check_raises(self, InvalidPaper, {"word": word, "at": at}, lets_exact, program, thing)

    def test_example(self):
        self.assertEqual(lets_exact(THRICE, ((3, (0, 1), (1, 3)),)), 1)

    def test_papers_are_accepted(self):
        for program, paper in EXACT:
            self.assertEqual(lets_exact(program=program, thing=paper), len(paper))
        self.assertEqual(lets_exact(TWICE, TWICE_PAPER), 3)

    def test_no_tuple(self):
        for thing in (None, True, 0, "", [], [ROW], "x"):
            self.refused(THRICE, thing, "shape", -1)
            self.refused(SPREAD, thing, "shape", -1)

    def test_shapes_of_rows(self):
        for row in (None, True, (), "abc", ROW[:2], ROW + (0,), list(ROW), (4,) + ROW[1:], (-1,) + ROW[1:], (True,) + ROW[1:],
                    (None,) + ROW[1:], (3, (1, 0), Q1), (3, (0, 2), Q1), (3, (0, True), Q1), (3, [0, 1], Q1), (3, (0, 0), Q1),
                    (3, (0, 1), Q0), (3, (0, 1), (-1, 3))):
            self.refused(THRICE, (row,), "shape", 0)
            self.refused(THRICE, (row, None), "shape", 0)
            self.refused(THRICE, ((0, (), Q1), row), "shape", 1)
        for factor in NO_QUOTIENTS:
            self.refused(THRICE, ((3, (0, 1), factor),), "shape", 0)

    def test_rows_ascend(self):
        self.refused(THRICE, (ROW, ROW), "shape", 1)
        self.refused(THRICE, (ROW, (3, (0, 1), Q2)), "shape", 1)
        self.refused(THRICE, (ROW, (3, (0,), Q2)), "shape", 1)
        self.refused(THRICE, (ROW, (2, (1,), Q2)), "shape", 1)
        self.refused(TWICE, (TWICE_PAPER[1], TWICE_PAPER[0], TWICE_PAPER[2]), "shape", 1)
        # All shapes are checked ahead of all lines.
        self.refused((1, (("mul", 0, 0),)), ((0, (0,), Q1), (0, (), Q1)), "shape", 1)

    def test_mul(self):
        self.refused((1, (("mul", 0, 0),)), (), "mul", 0)
        self.refused((1, (("add", 0, 0), ("mul", 0, 1))), ((0, (0,), Q1),), "mul", 1)
        # Ahead of the rows of a later line, and of a row whose line is none.
        self.refused((1, (("mul", 0, 0), ("add", 1, 1))), ((0, (0,), Q1), (1, (), Q1)), "mul", 0)
        # But behind those of a line before.
        self.refused((1, (("add", 0, 0), ("mul", 0, 1))), ((0, (0,), Q2),), "factor", 0)
        self.refused((1, (("add", 0, 0), ("mul", 0, 1))), (), "open", 0)

    def test_lot(self):
        for lot in ((), (0,), (1,)):
            self.refused(THRICE, ((3, lot, (1, 3)),), "lot", 0)
            if lot < (0, 1):
                self.refused(THRICE, ((3, lot, (1, 3)), ROW), "lot", 0)
        self.refused(TWICE, TWICE_PAPER[:1] + ((1, (0, 1), Q1),) + TWICE_PAPER[1:], "lot", 1)
        # A linked part of one read alone.
        self.refused((2, (("add", 0, 1),)), ((0, (0,), Q1),), "lot", 0)
        self.refused((2, (("add", 0, 1), ("add", 2, 0))), ((1, (0,), Q1), (1, (1,), Q1)), "lot", 1)
        self.refused((2, (("add", 0, 1), ("add", 0, 2))), ((1, (0,), Q1), (1, (1,), Q1)), "lot", 1)
        self.refused(SPREAD, ((2, (0,), Q1),), "lot", 0)

    def test_factor(self):
        for factor in (Q1, (3, 1), (1, 2), (1, 30)):
            self.refused(THRICE, ((3, (0, 1), factor),), "factor", 0)
        self.refused(TWICE, TWICE_PAPER[:1] + ((1, (1,), Q2),) + TWICE_PAPER[2:], "factor", 1)
        # A factor below nought, or none at all, is no factor of a paper.
        self.refused((1, (("sub", 0, 0),)), ((0, (0,), Q1),), "factor", 0)
        self.refused((2, (("mul", 0, 1), ("add", 2, 0), ("add", 2, 3))), ((2, (0, 1), Q1),), "open", 1)
        parallel = (2, (("num", Q1), ("add", 0, 2), ("mul", 3, 1), ("mul", 0, 1), ("add", 4, 5)))
        self.refused(parallel, ((4, (0, 1), Q1),), "factor", 0)

    def test_lot_and_factor_go_row_by_row(self):
        # Row 0 has the wrong factor, row 1 the wrong lot.
        self.refused(TWICE, ((1, (0,), Q2), (1, (0, 1), Q1)), "factor", 0)
        self.refused(TWICE, ((1, (0, 1), Q1), (1, (1,), Q2)), "lot", 0)

    def test_open(self):
        self.refused(THRICE, (), "open", 3)
        self.refused(TWICE, TWICE_PAPER[1:], "open", 1)
        self.refused(TWICE, TWICE_PAPER[:1], "open", 1)
        self.refused(TWICE, TWICE_PAPER[:2], "open", 3)
        self.refused(MIXING, (), "open", 2)
        self.refused(SPREAD, (), "open", 2)
        # Line by line: an open line ahead of a wrong row of a later one.
        self.refused(TWICE, TWICE_PAPER[:1] + ((3, (0,), Q1),), "open", 1)

    def test_line(self):
        # A mul, a num and a line that does not count.
        for k in (0, 1, 2):
            self.refused(THRICE, ((k, (0, 1), Q1), ROW), "line", 0)
        self.refused(TIGHT, ((1, (0,), Q1),), "line", 0)
        self.refused((1, (("add", 0, 0), ("num", Q1))), ((0, (0,), Q1),), "line", 0)
        self.refused((1, (("num", Q1),)), ((0, (), Q1),), "line", 0)
        self.refused(TWICE, TWICE_PAPER[:2] + ((2, (0, 1, 2), Q1),) + TWICE_PAPER[2:], "line", 2)
        # Last: behind what is wrong in later lines.
        self.refused(THRICE, ((0, (), Q1), (3, (0, 1), Q1)), "factor", 1)
        self.refused(THRICE, ((0, (), Q1),), "open", 3)
        self.refused(THRICE, ((0, (), Q1), (2, (), Q1), ROW), "line", 0)

    def test_lines_that_carry_nothing(self):
        program = (1, (("num", Q1), ("add", 1, 1), ("add", 0, 2)))
        self.assertEqual(lets_exact(program, ()), 0)
        self.refused(program, ((1, (0,), Q1),), "lot", 0)
        self.refused(program, ((1, (), Q1),), "lot", 0)
        self.refused(program, ((2, (0,), Q1),), "lot", 0)

    def test_degrees_have_no_limit(self):
        squares = tuple(("mul", k, k) for k in range(38))
        self.refused((1, squares + (("add", 38, 0),)), (), "mul", 0)
        self.assertEqual(lets_exact((1, squares + (("add", 0, 0),)), ((38, (0,), Q1),)), 1)

    def test_nothing_but_the_paper_is_accepted(self):
        rng = Random(61)
        for _ in range(300):
            program = random_program(rng, most_lines=6)
            paper = exact_paper(program) if is_exact(program) else ()
            others = {(), paper[:-1], paper[1:], paper + ((len(program[1]) - 1, (0,), Q2),), ((0, (0,), Q1),),
                      tuple((line, lot, Q2) for line, lot, _ in paper)}
            for thing in others:
                if not is_exact(program) or thing != paper:
                    with self.assertRaises(InvalidPaper):
                        lets_exact(program, thing)
        for program, _ in FAULTY:
            with self.assertRaises(InvalidPaper):
                lets_exact(program, ())

    def test_refused(self):
        check_refusals(self, lets_exact, {"program": TIGHT, "thing": ()}, {"program": (MIXED,)})
        check_raises(self, NotUsable, {"word": "program", "at": -1}, lets_exact, MIXED, None)
