import unittest

from sevenruns.errors import Bent, NotUsable
from sevenruns.forms import bare_form, form_plus, form_scaled
from sevenruns.linked import factor_between, linked_parts, part_of
from tests.samples import BENT, PAIRS, Q0, Q1, Q2, check_raises, check_refusals

FOUR = (4, (((), Q2), ((0, 2), Q1), ((1,), Q1), ((2, 3), Q1)))
BARE = (2, (((), Q2),))
MORE_BENT = (2, (((0, 0), Q1),))
NO_FORMS = (None, True, 0, "", (), 2, (2,), [2, ()], (2, None), (2, (((1, 0), Q1),)), (1, ()), (3, ()), (True, ()))
NO_LOTS = (None, True, 0, "", (0, 0), (1, 0), (2,), (-1,), (True,), [0], (0, 1, 2), ("0",))


class Linked(unittest.TestCase):
    def test_examples(self):
        self.assertEqual(linked_parts(FOUR), ((0, 2, 3), (1,)))
        self.assertEqual(part_of((2, (((), Q2), ((0,), Q1), ((1,), (1, 3)))), (1,)), (2, (((1,), (1, 3)),)))
        self.assertEqual(factor_between((2, (((), Q1), ((0,), Q1), ((0, 1), Q2))), (2, (((0,), (-1, 2)), ((0, 1), (-1, 1))))),
                         (-2, 1))

    def test_linked_parts(self):
        self.assertEqual(linked_parts(form=PAIRS), ((0, 1, 2),))
        self.assertEqual(linked_parts((3, ())), ())
        self.assertEqual(linked_parts(BARE), ())
        self.assertEqual(linked_parts((5, (((0, 4), Q1), ((1,), Q1), ((2, 3), Q1)))), ((0, 4), (1,), (2, 3)))
        self.assertEqual(linked_parts((6, (((0, 5), Q1), ((1, 4), Q1), ((2, 3), Q1), ((3, 4), Q1)))), ((0, 5), (1, 2, 3, 4)))
        self.assertEqual(linked_parts((4, (((0, 1), Q1), ((0, 2), Q1), ((2,), Q1)))), ((0, 1, 2),))

    def test_parts_and_number_make_the_form(self):
        for form in (FOUR, PAIRS, BARE, (3, ()), (5, (((), Q1), ((0, 4), Q1), ((1,), Q1), ((2,), Q1), ((2, 3), (-1, 2))))):
            total = bare_form(form[0], Q2 if form in (FOUR, BARE) else Q1 if form[0] == 5 else Q0)
            for lot in linked_parts(form):
                total = form_plus(total, part_of(form=form, lot=lot))
            self.assertEqual(total, form)

    def test_factor_between(self):
        for factor in (Q1, Q2, (-1, 2), (7, 3)):
            scaled = form_plus(form_scaled(FOUR, factor), bare_form(4, (5, 1)))
            self.assertEqual(factor_between(form=scaled, other=FOUR), factor)
        self.assertIsNone(factor_between(FOUR, form_plus(FOUR, (4, (((1,), Q1),)))))
        self.assertIsNone(factor_between(FOUR, (4, FOUR[1][:3])))
        self.assertIsNone(factor_between((4, FOUR[1][:3]), FOUR))
        self.assertIsNone(factor_between((2, (((0,), Q1),)), (2, (((1,), Q1),))))
        for bare in (BARE, (2, ())):
            self.assertIsNone(factor_between(bare, (2, (((0,), Q1),))))
            self.assertIsNone(factor_between((2, (((0,), Q1),)), bare))
            self.assertIsNone(factor_between(bare, bare))

    def test_refused_in_this_sequence(self):
        form = (2, (((0,), Q1), ((0, 1), Q2)))
        check_raises(self, Bent, {"which": 1}, linked_parts, BENT)
        for first in (form, BENT, (2, ())):
            check_refusals(self, part_of, {"form": first, "lot": (0,)}, {"lot": NO_LOTS})
            check_refusals(self, factor_between, {"form": first, "other": form}, {"other": NO_FORMS})
        for lot in ((), (0,), (0, 1), (1,)):
            check_raises(self, Bent, {"which": 1}, part_of, BENT, lot)
            if lot != (0, 1):
                check_raises(self, NotUsable, {"word": "lot", "at": -1}, part_of, form, lot)
        check_raises(self, NotUsable, {"word": "lot", "at": -1}, part_of, (2, ()), ())
        check_raises(self, Bent, {"which": 1}, factor_between, BENT, MORE_BENT)
        check_raises(self, Bent, {"which": 0}, factor_between, MORE_BENT, BENT)
        check_raises(self, Bent, {"which": 1}, factor_between, form, BENT)
        check_raises(self, Bent, {"which": 1}, factor_between, BENT, (2, ()))
        check_raises(self, Bent, {"which": 1}, factor_between, (2, ()), BENT)
