import unittest
from random import Random

from sevenruns.errors import NotUsable
from sevenruns.forms import bare_form, form_from, form_minus, form_plus, form_scaled, form_times, input_form, is_form
from tests.samples import BENT, NO_INPUTS, NO_QUOTIENTS, PAIRS, Q0, Q1, Q2, Wrong, check_raises, check_refusals
from tests.samples import form_value, frac, random_number, some_points

RIGHT = (PAIRS, BENT, (1, ()), (3, (((), (-1, 2)),)), (1, (((0,) * 8, Q1),)), (1, (((0,) * 40, Q1),)), (9, (((8,), Q2),)),
         (2, (((), Q1), ((0,), Q1), ((0, 0), Q1), ((0, 1), Q1), ((1,), (10 ** 80, 3)))))
WRONG = (None, True, 1, "", (), (1,), (1, (), ()), [1, ()], (0, ()), (-1, ()), (True, ()), ("1", ()), (1, None), (1, []),
         (1, (None,)), (1, (((0,),),)), (1, (((0,), Q1, Q1),)), (1, ([(0,), Q1],)), (1, (((1,), Q1),)), (1, (((-1,), Q1),)),
         (1, (((False,), Q1),)), (1, ((0, Q1),)), (1, (([0], Q1),)), (2, (((1, 0), Q1),)), (1, (((0,), Q0),)),
         (1, (((0,), (2, 4)),)), (1, (((0,), 1),)), (1, (((0,), (True, 1)),)), (1, (((0,), Q1), ((0,), Q1))),
         (1, (((0,), Q1), ((), Q1))), (2, (((1,), Q1), ((0, 1), Q1))), (1, ((), Q1)), Wrong())


def random_form(rng, size, many=4):
    terms = [(tuple(rng.randrange(size) for _ in range(rng.randint(0, 3))), random_number(rng)) for _ in range(many)]
    return form_from(size, *terms)


class Forms(unittest.TestCase):
    def test_examples(self):
        self.assertEqual(form_from(2, ((1, 0), Q1), ((), Q0), ((0, 1), (-3, 2))), (2, (((0, 1), (-1, 2)),)))
        self.assertEqual(form_times(input_form(1, 0), form_plus(input_form(1, 0), bare_form(1, Q2))),
                         (1, (((0,), (2, 1)), ((0, 0), (1, 1)))))

    def test_what_is_a_form(self):
        for thing in RIGHT:
            self.assertIs(is_form(thing), True)
            self.assertIs(is_form(thing=thing), True)
        for thing in WRONG:
            with self.subTest(thing=thing):
                self.assertIs(is_form(thing), False)

    def test_form_from(self):
        self.assertEqual(form_from(3), (3, ()))
        self.assertEqual(form_from(2, ((0,), Q1), ((0,), (-1, 1))), (2, ()))
        self.assertEqual(form_from(3, ((2, 0, 2), Q1), ((), Q2), ((1,), Q0)), (3, (((), Q2), ((0, 2, 2), Q1))))
        self.assertEqual(form_from(1, ((), (1, 2)), ((), (1, 3)), ((), (1, 6))), (1, (((), Q1),)))

    def test_bare_and_input_forms(self):
        self.assertEqual(bare_form(2, Q0), (2, ()))
        self.assertEqual(bare_form(size=2, quotient=(-1, 2)), (2, (((), (-1, 2)),)))
        self.assertEqual(input_form(size=3, which=2), (3, (((2,), Q1),)))

    def test_reckoning(self):
        rng = Random(9)
        for size in (1, 2, 3):
            for _ in range(25):
                one, other, number = random_form(rng, size), random_form(rng, size), random_number(rng)
                results = ((form_plus(one, other), lambda a, b: a + b), (form_minus(one, other), lambda a, b: a - b),
                           (form_times(one, other), lambda a, b: a * b),
                           (form_scaled(one, number), lambda a, _: a * frac(number)))
                for form, reckon in results:
                    self.assertIs(is_form(form), True)
                    for point in some_points(size)[:9]:
                        self.assertEqual(form_value(form, point), reckon(form_value(one, point), form_value(other, point)))

    def test_what_falls_out(self):
        self.assertEqual(form_minus(one=PAIRS, other=PAIRS), (3, ()))
        self.assertEqual(form_plus(one=PAIRS, other=form_scaled(PAIRS, (-1, 1))), (3, ()))
        self.assertEqual(form_scaled(form=PAIRS, quotient=Q0), (3, ()))
        self.assertEqual(form_times(one=PAIRS, other=(3, ())), (3, ()))
        plus, minus = form_from(2, ((0,), Q1), ((1,), Q1)), form_from(2, ((0,), Q1), ((1,), (-1, 1)))
        self.assertEqual(form_times(plus, minus), (2, (((0, 0), Q1), ((1, 1), (-1, 1)))))

    def test_great_numbers(self):
        great = (10 ** 80, 10 ** 70 + 1)
        form = form_from(1, ((0,), great), ((), (1, 3)))
        self.assertEqual(form_times(form, form)[1][2], ((0, 0), (10 ** 160, (10 ** 70 + 1) ** 2)))

    def test_refused_terms(self):
        for term in (None, True, (), ((),), ((), Q1, Q1), [(), Q1], ((2,), Q1), ((-1,), Q1), ((True,), Q1), ([0], Q1), (0, Q1),
                     ((0,), 1), ((0,), (2, 4)), ((0,), None)):
            check_raises(self, NotUsable, {"word": "terms", "at": 0}, form_from, 2, term)
            check_raises(self, NotUsable, {"word": "terms", "at": 0}, form_from, 2, term, None)
            check_raises(self, NotUsable, {"word": "terms", "at": 1}, form_from, 2, ((1, 0), Q0), term, ((), Q1))

    def test_refused(self):
        check_refusals(self, bare_form, {"size": 2, "quotient": Q1}, {"quotient": NO_QUOTIENTS})
        check_refusals(self, input_form, {"size": 2, "which": 1}, {"which": (2,) + NO_INPUTS})
        check_refusals(self, form_scaled, {"form": PAIRS, "quotient": Q1}, {"quotient": NO_QUOTIENTS})
        for function in (form_plus, form_minus, form_times):
            check_refusals(self, function, {"one": PAIRS, "other": PAIRS}, {"other": WRONG + (BENT, (4, ()))})
