import unittest
from random import Random

from sevenruns.expanding import form_of
from sevenruns.formfacts import is_first
from sevenruns.forms import form_from
from sevenruns.kindchecker import lets_kind
from sevenruns.kindforms import form_by
from sevenruns.kindmaking import kind_of
from sevenruns.kindthings import is_kind
from tests.kind_samples import HAND_FORMS, PATH_TREE, TIGHT_KIND, cycle_form, dense_form, path_form, random_structured
from tests.kind_samples import value_slowly
from tests.samples import BENT, Q0, Q1, Q2, SPREAD, TIGHT, form_value, some_points


class KindMaking(unittest.TestCase):
    def test_examples(self):
        self.assertEqual(kind_of((2, (((), (-1, 1)), ((0,), (-2, 1)), ((0, 1), Q2), ((1,), Q1)))),
                         ("first", (0, 1), (2, 1), ("product", (((1, 2), 0), ((-1, 1), 1)))))
        self.assertEqual(kind_of((4, (((1,), Q2),))), ("first", (0, 1), (2, 1), 1))
        self.assertEqual(kind_of((2, ())), ("bare", (0, 1)))
        self.assertEqual(kind_of(form_of(SPREAD)), TIGHT_KIND)
        self.assertEqual(kind_of(form_of(TIGHT)), TIGHT_KIND)

    def test_by_hand(self):
        for form, kind in HAND_FORMS:
            with self.subTest(form=form):
                self.assertEqual(kind_of(form=form), kind)

    def test_bent_kinds_have_the_least_size(self):
        self.assertEqual(kind_of(BENT), ("bent", BENT))
        self.assertEqual(kind_of((8, BENT[1])), ("bent", BENT))
        self.assertEqual(kind_of((5, (((0,), Q1), ((2, 2), Q1)))), ("bent", (3, (((0,), Q1), ((2, 2), Q1)))))
        self.assertEqual(kind_of((40, (((38, 38), Q1),))), ("bent", (39, (((38, 38), Q1),))))

    def test_first_kinds_do_not_hang_on_the_size(self):
        for form, kind in HAND_FORMS:
            self.assertEqual(kind_of((form[0] + 3, form[1])), kind)

    def test_knots_of_three_to_eight_sons(self):
        for size in range(4, 9):
            kind = kind_of(path_form(size))
            self.assertEqual(kind[3][:2], ("knot", tuple(range(size))))
            self.assertEqual(kind[:3], ("first", Q0, Q1))
        for size in (3, 5, 6, 7, 8):
            self.assertEqual(kind_of(cycle_form(size))[3][:2], ("knot", tuple(range(size))))
        self.assertEqual(kind_of(path_form(4))[3], PATH_TREE)
        # Four inputs in a ring are (x0 + x2) (x1 + x3).
        self.assertEqual(kind_of(cycle_form(4))[3][0], "product")
        for size in range(3, 9):
            kind = kind_of(dense_form(size))
            self.assertEqual(kind[3][:2], ("knot", tuple(range(size))))
            self.assertEqual(form_by(kind, size), dense_form(size))

    def test_each_form_has_one_kind_and_comes_back(self):
        rng = Random(101)
        many = 0
        for _ in range(400):
            form = random_structured(rng)
            self.assertIs(is_first(form), True)
            kind = kind_of(form)
            lets_kind(kind)
            self.assertIs(is_kind(kind), True)
            self.assertEqual(form_by(kind, form[0]), form)
            for point in some_points(form[0])[:6]:
                self.assertEqual(value_slowly(kind, point), form_value(form, point))
            many += kind[0] == "first"
        self.assertGreater(many, 300)

    def test_products_of_all_inputs_with_shifts(self):
        # (x0 + 1) .. (x7 + 1) has a term for each lot, but no knot.
        form = form_from(8, *((tuple(w for w in range(8) if mask >> w & 1), Q1) for mask in range(256)))
        self.assertEqual(kind_of(form), ("first", Q0, Q1, ("product", tuple((Q1, which) for which in range(8)))))

    def test_great_numbers(self):
        great = 10 ** 12
        self.assertEqual(kind_of((2, (((0,), (great, 1)), ((1,), (1, great))))),
                         ("first", Q0, (1, great), ("sum", ((great * great, 0), (1, 1)))))
