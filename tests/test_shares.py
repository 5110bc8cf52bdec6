import unittest
from fractions import Fraction
from random import Random

from sevenruns.copies import copies_of, copy_change
from sevenruns.errors import NotExact
from sevenruns.expanding import form_of
from sevenruns.formfacts import hangs_on
from sevenruns.formruns import step_of
from sevenruns.programs import degrees_of
from sevenruns.shares import shares_of
from sevenruns.verdicts import is_exact
from tests.samples import HIDDEN, MIXED, Q0, Q1, Q2, THRICE, TIGHT, check_raises, check_refused, form_value, frac, quot, random_program
from tests.verdict_samples import EXACT, FAULTY


def is_small(program):
    return max(degrees_of(program)) <= 8 and len(copies_of(program)) <= 40


class Shares(unittest.TestCase):
    def check_shares(self, program, rng):
        """As (G3) says it: each change is the share times the step by the input, at all points; nought for other copies."""
        shares, copies, form = shares_of(program=program), copies_of(program), form_of(program)
        self.assertEqual(len(shares), len(copies))
        steps = {which: step_of(form, which) for which in hangs_on(form)}
        for _ in range(4):
            point = tuple(quot(Fraction(rng.randint(-9, 9), rng.choice((1, 2, 7)))) for _ in range(program[0]))
            for copy, (which, share) in enumerate(zip(copies, shares)):
                step = form_value(steps[which], point) if which in steps else 0
                self.assertEqual(frac(copy_change(program, point, copy)), frac(share) * step)
        for which in hangs_on(form):
            self.assertEqual(sum(frac(share) for copy, share in zip(copies, shares) if copy == which), 1)
        self.assertTrue(all(share[0] >= 0 for share in shares))

    def test_example(self):
        self.assertEqual(shares_of(THRICE), ((1, 4), (1, 4), (3, 4), (3, 4)))

    def test_by_hand(self):
        self.assertEqual(shares_of(TIGHT), (Q1, Q1, Q1))
        self.assertEqual(shares_of((1, (("add", 0, 0), ("add", 0, 1)))), ((1, 3), (1, 3), (1, 3)))
        self.assertEqual(shares_of((1, (("num", (-1, 2)), ("mul", 1, 0), ("sub", 0, 2)))), ((2, 3), (1, 3)))
        # Parts with factors of their own, and one that a single read has.
        self.assertEqual(shares_of((3, (("add", 0, 1), ("num", Q2), ("mul", 4, 1), ("add", 0, 5), ("add", 6, 2), ("add", 3, 7)))),
                         ((1, 2), (1, 3), (1, 2), (2, 3), Q1))

    def test_copies_behind_void_reads_have_none(self):
        self.assertEqual(copies_of(HIDDEN), (0, 1, 1))
        self.assertEqual(shares_of(HIDDEN), (Q0, Q0, Q1))
        self.assertEqual(shares_of((1, (("num", Q0), ("mul", 0, 0), ("mul", 1, 2)))), (Q0, Q0))
        self.assertEqual(shares_of((1, (("num", Q0), ("mul", 1, 0), ("add", 2, 0), ("add", 3, 3)))), (Q0, (1, 2), Q0, (1, 2)))
        self.assertEqual(shares_of((2, (("num", Q1), ("sub", 2, 2), ("mul", 3, 0), ("add", 4, 1)))), (Q0, Q1))
        # An input of which all copies are held back.
        self.assertEqual(shares_of((2, (("num", Q0), ("mul", 0, 2), ("add", 1, 3)))), (Q1, Q0))

    def test_without_copies(self):
        self.assertEqual(shares_of((2, (("num", Q2), ("mul", 2, 2)))), ())

    def test_as_the_copies_tell(self):
        rng = Random(151)
        for program, _ in EXACT:
            if is_small(program):
                self.check_shares(program, rng)
        many = 0
        while many < 150:
            program = random_program(rng, most_inputs=3, most_lines=8)
            if is_small(program) and is_exact(program) and len(copies_of(program)) > 1:
                self.check_shares(program, rng)
                many += 1

    def test_refused(self):
        for program, fault in FAULTY:
            check_raises(self, NotExact, dict(zip(("word", "line", "which"), fault)), shares_of, program)
        for program in (MIXED, (1, (("mix", (0,), (Q0, Q1)), ("mul", 1, 1)))):
            check_refused(self, shares_of, {"program": program}, "program")
