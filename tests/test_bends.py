import unittest
from random import Random

from sevenruns.bends import bend_paper, lets_bend
from sevenruns.errors import InvalidPaper
from sevenruns.expanding import form_of
from sevenruns.things import is_point
from tests.samples import BENT, MIXING, PAIRS, Q0, Q1, Q2, SPREAD, SQUARE, check_raises, form_value, frac, no_points, plain_run
from tests.samples import random_program
from tests.test_forms import random_form
from tests.test_formruns import up

POINT = (Q0, Q1)
# x0 x0 x1, to be run.
PROGRAM = (2, (("mul", 0, 0), ("mul", 2, 1)))


class Bends(unittest.TestCase):
    def test_example(self):
        self.assertEqual(lets_bend((1, (("mul", 0, 0),)), (((5, 2),), 0)), (2, 1))

    def check_paper(self, form):
        point, which = bend_paper(form=form)
        self.assertIs(is_point(form[0], point), True)
        self.assertTrue(all(top >= 0 and bottom == 1 for top, bottom in point))
        values = [form_value(form, up(point, *(which,) * many)) for many in range(3)]
        self.assertNotEqual(values[0] + values[2], 2 * values[1])
        return point, which

    def test_papers_of_bent_forms(self):
        self.check_paper(BENT)
        # Forms that do not bend at many points.
        self.check_paper((1, (((0,), (-4, 1)), ((0, 0), (6, 1)), ((0, 0, 0), (-4, 1)), ((0, 0, 0, 0), Q1))))
        self.check_paper((2, (((0, 0), (-1, 1)), ((0, 0, 1), Q1))))
        self.check_paper((2, (((0, 0), Q2), ((0, 0, 1), (-3, 1)), ((0, 0, 1, 1), Q1))))
        self.check_paper((3, (((0, 1, 2), Q1), ((2, 2), (-1, 1)))))
        self.check_paper((8, (((0, 1, 2, 3, 4, 5, 6, 6), Q1),)))
        self.check_paper((1, (((0, 0), (1, 10 ** 80)),)))
        self.check_paper((1, (((0, 0, 0), Q1),)))
        self.check_paper((1, (((0, 0), (-3, 1)), ((0, 0, 0), Q1))))

    def test_papers_at_random(self):
        rng = Random(12)
        for _ in range(200):
            form = random_form(rng, rng.randint(1, 3), many=5)
            if any(len(set(bundle)) < len(bundle) for bundle, _ in form[1]):
                self.check_paper(form)
            else:
                self.assertIsNone(bend_paper(form))

    def test_no_paper_of_first_degree(self):
        for form in (PAIRS, (1, ()), (1, (((), Q1),)), form_of(MIXING)):
            self.assertIsNone(bend_paper(form))

    def test_papers_are_accepted_for_each_program_with_the_form(self):
        mixed = (2, (("mix", (0, 1, 0), (Q0,) * 7 + (Q1,)),))
        other = (2, (("mul", 0, 1), ("mul", 0, 2)))
        paper = bend_paper(form_of(PROGRAM))
        self.assertEqual(lets_bend(program=PROGRAM, thing=paper), lets_bend(mixed, paper))
        self.assertEqual(lets_bend(other, paper), lets_bend(mixed, paper))

    def test_what_is_returned(self):
        rng = Random(13)
        for _ in range(100):
            program = random_program(rng, words=("add", "sub", "mul", "mul", "num", "mix"))
            point = tuple((rng.randint(-2, 3), 1) for _ in range(program[0]))
            for which in range(program[0]):
                first, second, third = [plain_run(program, up(point, *(which,) * many))[-1] for many in range(3)]
                if first + third == 2 * second:
                    check_raises(self, InvalidPaper, {"word": "straight", "at": -1}, lets_bend, program, (point, which))
                else:
                    self.assertEqual(frac(lets_bend(program, (point, which))), first + third - 2 * second)

    def test_refused(self):
        for thing in (None, True, 0, "", (), (POINT,), (POINT, 0, 0), [POINT, 0], "ab"):
            check_raises(self, InvalidPaper, {"word": "shape", "at": -1}, lets_bend, PROGRAM, thing)
        for point in no_points(2) + ((Q0, Q1, Q2),):
            check_raises(self, InvalidPaper, {"word": "point", "at": -1}, lets_bend, PROGRAM, (point, 0))
            check_raises(self, InvalidPaper, {"word": "point", "at": -1}, lets_bend, PROGRAM, (point, 7))
        for which in (2, -1, True, False, None, "0", (0,)):
            check_raises(self, InvalidPaper, {"word": "which", "at": -1}, lets_bend, PROGRAM, (POINT, which))
            check_raises(self, InvalidPaper, {"word": "which", "at": -1}, lets_bend, (2, (("add", 0, 1),)), (POINT, which))
        check_raises(self, InvalidPaper, {"word": "straight", "at": -1}, lets_bend, PROGRAM, (POINT, 1))
        check_raises(self, InvalidPaper, {"word": "straight", "at": -1}, lets_bend, PROGRAM, ((Q1, Q0), 0))
        check_raises(self, InvalidPaper, {"word": "straight", "at": -1}, lets_bend, SPREAD, ((Q0, Q1, Q2), 0))
        self.assertEqual(lets_bend(PROGRAM, (POINT, 0)), Q2)
        self.assertEqual(lets_bend(SQUARE, ((Q0,), 0)), Q2)
