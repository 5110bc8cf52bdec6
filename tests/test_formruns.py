import unittest
from random import Random

from sevenruns.errors import Bent
from sevenruns.formruns import step_of, step_two, value_of, with_number
from tests.samples import BENT, NO_INPUTS, NO_QUOTIENTS, PAIRS, Q0, Q1, Q2, check_raises, check_refusals, form_value, frac
from tests.samples import no_points, quot, random_number, some_points
from tests.test_forms import random_form

FIRST = (4, (((), Q2), ((0, 1, 3), (1, 2)), ((0, 3), (-1, 1)), ((1,), Q1)))


def up(point, *inputs):
    return tuple(quot(frac(entry) + inputs.count(which)) for which, entry in enumerate(point))


class FormRuns(unittest.TestCase):
    def test_examples(self):
        self.assertEqual(with_number((2, (((0, 0, 1), Q1), ((1,), Q2))), 0, (-3, 1)), (2, (((1,), (11, 1)),)))
        self.assertEqual(step_of(PAIRS, 0), (3, (((1,), (1, 1)), ((2,), (1, 1)))))
        self.assertEqual(step_two(PAIRS, 0, 2), (3, (((), (1, 1)),)))

    def test_values(self):
        rng = Random(2)
        for size in (1, 2, 3):
            for form in [random_form(rng, size) for _ in range(10)] + [(size, ()), (size, (((), Q2),))]:
                for point in some_points(size)[:12]:
                    self.assertEqual(value_of(form=form, point=point), quot(form_value(form, point)))

    def test_with_number(self):
        rng = Random(4)
        for size in (1, 2, 3):
            for form in [random_form(rng, size) for _ in range(10)]:
                for which in range(size):
                    number = random_number(rng)
                    found = with_number(form=form, which=which, quotient=number)
                    self.assertEqual(found[0], size)
                    for point in some_points(size)[:9]:
                        set_point = point[:which] + (number,) + point[which + 1:]
                        self.assertEqual(form_value(found, point), form_value(form, set_point))
                        self.assertEqual(form_value(found, up(point, which)), form_value(form, set_point))
        self.assertEqual(with_number((2, (((0, 1), Q1), ((1,), Q1))), 0, (-1, 1)), (2, ()))
        self.assertEqual(with_number(PAIRS, 2, Q0), (3, (((0, 1), Q1),)))
        self.assertEqual(with_number((1, ()), 0, Q2), (1, ()))

    def test_steps(self):
        for form in (FIRST, PAIRS, (4, ()), (4, (((), Q1),))):
            for point in some_points(form[0]):
                base = form_value(form, point)
                for which in range(form[0]):
                    change = form_value(form, up(point, which)) - base
                    self.assertEqual(form_value(step_of(form=form, which=which), point), change)
                    for other in range(form[0]):
                        if other != which:
                            both = form_value(form, up(point, which, other)) - form_value(form, up(point, other)) - change
                            step = step_two(form=form, which=which, other=other)
                            self.assertEqual(form_value(step, point), both)
                            self.assertEqual(step, step_two(form, other, which))

    def test_steps_that_are_nought(self):
        self.assertEqual(step_of(FIRST, 2), (4, ()))
        self.assertEqual(step_of((1, ()), 0), (1, ()))
        self.assertEqual(step_two(FIRST, 2, 0), (4, ()))
        self.assertEqual(step_of((2, (((0,), Q1),)), 0), (2, (((), Q1),)))

    def test_refused(self):
        check_refusals(self, value_of, {"form": BENT, "point": (Q0, Q1)}, {"point": no_points(2)})
        no_inputs = (2,) + NO_INPUTS
        check_refusals(self, with_number, {"form": BENT, "which": 0, "quotient": Q1},
                       {"which": no_inputs, "quotient": NO_QUOTIENTS})
        # Errors of parameters come ahead of Bent.
        for form in (BENT, (2, ())):
            check_refusals(self, step_of, {"form": form, "which": 0}, {"which": no_inputs})
            check_refusals(self, step_two, {"form": form, "which": 0, "other": 1},
                           {"which": no_inputs, "other": (0,) + no_inputs})

    def test_bent(self):
        for form, which in ((BENT, 1), ((3, (((0, 2, 2), Q1), ((1, 1), Q1))), 1), ((1, (((0, 0), Q1),)), 0)):
            check_raises(self, Bent, {"which": which}, step_of, form, 0)
        check_raises(self, Bent, {"which": 1}, step_two, BENT, 0, 1)
