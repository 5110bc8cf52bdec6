import unittest
from random import Random

from sevenruns.expanding import form_of, forms_of
from sevenruns.forms import is_form
from tests.samples import MIXING, Q0, Q1, Q2, SPREAD, TIGHT, form_value, plain_run, random_program, some_points


class Expanding(unittest.TestCase):
    def test_examples(self):
        self.assertEqual(form_of(MIXING), (3, (((0,), (1, 1)), ((0, 2), (-1, 1)), ((1, 2), (1, 1)))))
        self.assertEqual(forms_of((1, (("mix", (0, 0), (Q0, Q1, Q1, Q1)), ("num", Q0)))),
                         ((1, (((0,), (2, 1)), ((0, 0), (1, 1)))), (1, ())))

    def test_one_form(self):
        self.assertEqual(form_of(program=SPREAD), (3, (((0, 1), Q1), ((0, 2), Q1))))
        self.assertEqual(form_of(TIGHT), form_of(SPREAD))

    def test_lines_that_nothing_reads(self):
        program = (2, (("mul", 0, 1), ("num", Q2), ("sub", 0, 0)))
        self.assertEqual(forms_of(program=program), ((2, (((0, 1), Q1),)), (2, (((), Q2),)), (2, ())))

    def test_a_mix_with_no_number_but_nought(self):
        self.assertEqual(form_of((2, (("mix", (0, 1), (Q0,) * 4),))), (2, ()))

    def test_a_mix_of_eight(self):
        self.assertEqual(form_of((8, (("mix", tuple(range(8)), (Q0,) * 255 + (Q2,)),))), (8, ((tuple(range(8)), Q2),)))
        self.assertEqual(form_of((1, (("mix", (0,) * 8, (Q0,) * 255 + (Q2,)),))), (1, (((0,) * 8, Q2),)))

    def test_products_with_nought_are_left_out(self):
        high = (("mul", 0, 0), ("mul", 1, 1), ("mul", 2, 2), ("mix", (3, 0), (Q0, Q0, Q1, Q0)))
        self.assertEqual(form_of((1, high)), (1, (((0,), Q1),)))

    def test_values_are_those_of_runs(self):
        rng = Random(8)
        for _ in range(120):
            program = random_program(rng, most_lines=4, words=("add", "sub", "mul", "num", "mix"))
            forms = forms_of(program)
            self.assertEqual(form_of(program), forms[-1])
            for form in forms:
                self.assertIs(is_form(form), True)
                self.assertEqual(form[0], program[0])
            for point in some_points(program[0])[:9]:
                self.assertEqual([form_value(form, point) for form in forms], plain_run(program, point)[program[0]:])
