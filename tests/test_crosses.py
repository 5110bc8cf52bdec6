import unittest
from itertools import combinations
from random import Random

from sevenruns.crosses import alike_cross, cross_at, crossed
from sevenruns.errors import Bent
from sevenruns.expanding import form_of
from sevenruns.formfacts import is_first
from sevenruns.formruns import step_of, step_two, value_of
from sevenruns.forms import form_times
from sevenruns.quotients import times
from sevenruns.runs import run_of
from tests.kind_samples import HAND_FORMS, dense_form, path_form, random_structured
from tests.samples import BENT, MIXED, MIXING, NOTHINGS, PAIRS, Q0, Q1, Q2, SPREAD, check_raises, check_refusals, frac, no_points, quot
from tests.samples import random_number, random_program

NO_THREES = NOTHINGS + ((), (0,), (0, 1), (0, 1, 2, 3), (0, 2, 1), (0, 0, 1), (0, 1, 4), (0, 1, True), [0, 1, 2], (0, 1, Q1))
FOUR = (4, (("mul", 0, 1), ("add", 4, 2), ("mul", 5, 3)))


def cross_slowly(program, point, three):
    def result(*ups):
        return frac(run_of(program, tuple(quot(frac(entry) + ups.count(which)) for which, entry in enumerate(point))))

    def second(one, other):
        return result(one, other) - result(one) - result(other) + result()

    i, j, k = three
    return ((result(i) - result()) * second(j, k), (result(j) - result()) * second(i, k), (result(k) - result()) * second(i, j))


class Crosses(unittest.TestCase):
    def test_examples(self):
        self.assertEqual(crossed(PAIRS), ((0, 1, 2),))
        self.assertIs(alike_cross(form_of(SPREAD), (0, 1, 2)), True)
        self.assertEqual(cross_at(MIXING, (Q0, Q0, Q2), (0, 1, 2)), ((-1, 1), (-2, 1), (0, 1)))

    def test_by_runs_alone(self):
        # Bent programs, mixes, forty inputs and many lines.
        rng = Random(121)
        for _ in range(200):
            program = random_program(rng, most_inputs=5, most_lines=8, words=("add", "sub", "mul", "num", "mix"))
            if program[0] >= 3:
                three = tuple(sorted(rng.sample(range(program[0]), 3)))
                point = tuple(random_number(rng) for _ in range(program[0]))
                found = cross_at(program=program, point=point, three=three)
                self.assertEqual(found, tuple(quot(entry) for entry in cross_slowly(program, point, three)))
        wide = (40, tuple(("mul" if k % 7 == 0 else "add", k, k + 1) for k in range(200)))
        point = tuple((k % 3, 1) for k in range(40))
        self.assertEqual(cross_at(wide, point, (3, 20, 39)), tuple(quot(e) for e in cross_slowly(wide, point, (3, 20, 39))))
        square = (3, (("mul", 0, 0), ("mul", 3, 1), ("add", 4, 2)))
        self.assertEqual(cross_at(square, (Q1, Q1, Q1), (0, 1, 2)), ((0, 1), (0, 1), (3, 1)))

    def test_the_form_has_this_cross(self):
        rng = Random(122)
        for form, _ in HAND_FORMS:
            for three in combinations(range(form[0]), 3):
                i, j, k = three
                forms = [form_times(step_of(form, one), step_two(form, *pair)) for one, pair in ((i, (j, k)), (j, (i, k)), (k, (i, j)))]
                alike = forms[0] == forms[1] or forms[0] == forms[2] or forms[1] == forms[2]
                self.assertIs(alike_cross(form=form, three=three), alike)
                self.assertIs(three in crossed(form=form), not alike)
        rng = Random(123)
        for _ in range(60):
            program = random_program(rng, most_inputs=4, most_lines=6)
            form = form_of(program)
            if is_first(form) and form[0] >= 3:
                point = tuple(random_number(rng) for _ in range(form[0]))
                for three in combinations(range(form[0]), 3):
                    i, j, k = three
                    values = tuple(times(value_of(step_of(form, one), point), value_of(step_two(form, *pair), point))
                                   for one, pair in ((i, (j, k)), (j, (i, k)), (k, (i, j))))
                    self.assertEqual(cross_at(program, point, three), values)

    def test_crossed(self):
        self.assertEqual(crossed(form_of(SPREAD)), ())
        self.assertEqual(crossed((3, ())), ())
        self.assertEqual(crossed((5, PAIRS[1])), ((0, 1, 2),))
        self.assertEqual(crossed(path_form(4)), ((0, 1, 2), (1, 2, 3)))
        # (x0 + x1) beside x2 and x3: each three with both of them and one of the sum.
        form = (4, tuple(((one, other), Q1) for one, other in ((0, 2), (0, 3), (1, 2), (1, 3), (2, 3))))
        self.assertEqual(crossed(form), ((0, 2, 3), (1, 2, 3)))
        self.assertEqual(crossed(dense_form(4)), tuple(combinations(range(4), 3)))
        rng = Random(124)
        for _ in range(40):
            form = random_structured(rng, most=5)
            self.assertEqual(crossed(form), tuple(t for t in combinations(range(form[0]), 3) if not alike_cross(form, t)))

    def test_inputs_on_which_the_form_does_not_hang(self):
        self.assertIs(alike_cross((4, PAIRS[1]), (0, 1, 3)), True)
        self.assertIs(alike_cross((4, PAIRS[1]), (0, 1, 2)), False)
        self.assertIs(alike_cross((3, ()), (0, 1, 2)), True)

    def test_refused(self):
        check_refusals(self, cross_at, {"program": FOUR, "point": (Q0,) * 4, "three": (0, 1, 2)},
                       {"point": no_points(4), "three": NO_THREES})
        check_refusals(self, cross_at, {"program": MIXED, "point": (Q0,) * 2, "three": None}, {"point": no_points(2), "three": ((0, 1, 2),)})
        wide = (4, (((0, 1), Q1), ((2, 3), Q1)))
        check_refusals(self, alike_cross, {"form": wide, "three": (0, 1, 2)}, {"three": NO_THREES})
        bent = (4, BENT[1])
        check_refusals(self, alike_cross, {"form": bent, "three": (0, 1, 2)}, {"three": NO_THREES})
        check_raises(self, Bent, {"which": 1}, alike_cross, bent, (0, 1, 2))
        check_raises(self, Bent, {"which": 1}, crossed, BENT)
        check_raises(self, Bent, {"which": 2}, crossed, (4, (((2, 2, 3, 3), Q1), ((3, 3), Q1))))
