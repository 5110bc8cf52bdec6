import unittest
from itertools import combinations
from random import Random

from sevenruns.clans import clans_of, is_clan, least_clan, strong_clans
from sevenruns.errors import Bent, NotUsable
from sevenruns.expanding import form_of
from sevenruns.formfacts import hangs_on
from sevenruns.forms import form_from
from sevenruns.formtexts import read_form
from tests.kind_samples import HAND_FORMS, clans_slowly, cycle_form, dense_form, overlap_slowly, path_form, random_structured
from tests.samples import BENT, NOTHINGS, PAIRS, Q0, Q1, Q2, SPREAD, check_raises, check_refusals

NO_LOTS = tuple(thing for thing in NOTHINGS if thing != ()) + (0, (1, 0), (0, 0), (3,), (-1,), (True,), [0], (Q0,), (0, 1, 2, 3))
SUM = form_from(4, *(((which,), Q1) for which in range(4)))


def checked_forms():
    rng = Random(131)
    return [form for form, _ in HAND_FORMS] + [random_structured(rng, most=5) for _ in range(120)] + [
        SUM, path_form(5), cycle_form(5), cycle_form(4), dense_form(4)]


class Clans(unittest.TestCase):
    def test_examples(self):
        self.assertEqual(clans_of(form_of(SPREAD)), ((0,), (0, 1, 2), (1,), (1, 2), (2,)))
        self.assertEqual(least_clan(form_of(SPREAD), (0, 1)), (0, 1, 2))

    def test_all_that_are_told(self):
        for form in checked_forms():
            clans = clans_slowly(form)
            self.assertEqual(clans_of(form=form), tuple(clans))
            strong = [one for one in clans if not any(overlap_slowly(one, other) for other in clans)]
            self.assertEqual(strong_clans(form=form), tuple(strong))
            for many in range(form[0] + 1):
                for lot in combinations(range(form[0]), many):
                    self.assertIs(is_clan(form=form, lot=lot), lot in clans)

    def test_least_clans(self):
        for form in checked_forms():
            clans, hung = clans_slowly(form), hangs_on(form)
            for many in range(1, len(hung) + 1):
                for lot in combinations(hung, many):
                    holding = [clan for clan in clans if set(lot) <= set(clan)]
                    found = least_clan(form=form, lot=lot)
                    self.assertIn(found, holding)
                    self.assertTrue(all(set(found) <= set(clan) for clan in holding))

    def test_by_hand(self):
        # In a sum and in a product all lots are clans, and those of one input and of all are strong.
        for form in (SUM, (4, (((0, 1, 2, 3), Q2),))):
            self.assertEqual(len(clans_of(form)), 15)
            self.assertEqual(strong_clans(form), ((0,), (0, 1, 2, 3), (1,), (2,), (3,)))
            self.assertEqual(least_clan(form, (1, 3)), (1, 3))
        for form in (PAIRS, path_form(4)):
            self.assertEqual(clans_of(form), tuple(sorted([tuple(range(form[0]))] + [(which,) for which in range(form[0])])))
            self.assertEqual(strong_clans(form), clans_of(form))
        self.assertEqual(clans_of((5, (((3,), Q1),))), ((3,),))
        self.assertEqual(clans_of((5, (((), Q2),))), ())
        self.assertEqual(strong_clans((2, ())), ())
        self.assertIs(is_clan(PAIRS, ()), False)
        self.assertIs(is_clan((4, PAIRS[1]), (3,)), False)
        self.assertIs(is_clan((4, PAIRS[1]), (0, 1, 2)), True)
        self.assertIs(is_clan((4, PAIRS[1]), (0, 1, 2, 3)), False)
        # Overlapping ones: of x0 + x1 + x2 the lots of two.
        self.assertEqual(strong_clans(form_from(3, *SUM[1][:3])), ((0,), (0, 1, 2), (1,), (2,)))

    def test_clans_hang_on_numbers(self):
        self.assertIs(is_clan(read_form("3: 2 x0 x1 + 4 x0 x2 + 3 x1 + 6 x2"), (1, 2)), True)
        self.assertIs(is_clan(read_form("3: 2 x0 x1 + 4 x0 x2 + 3 x1 + 7 x2"), (1, 2)), False)
        self.assertIs(is_clan(read_form("3: 1/2 x0 x1 + -1/3 x0 x2 + -3 x1 + 2 x2"), (1, 2)), True)
        # 3 x1 x2 + x0 (1 - x1 x2): steps by x0 and x1 may have one ratio at two values of x2, and are apart all the same.
        for form in ("3: 1 x0 + -1 x0 x1 x2 + 3 x1 x2", "3: 1 x0 + -1/5 x0 x1 x2 + 1 x1 x2", "3: 1 x0 + -1/7 x0 x1 x2 + 1 x1 x2"):
            self.assertEqual(least_clan(read_form(form), (0, 1)), (0, 1, 2))
            self.assertEqual(least_clan(read_form(form), (1, 2)), (1, 2))
        for number in range(1, 30):
            form = form_from(3, ((0,), Q1), ((0, 1, 2), (-1, number)), ((1, 2), Q1))
            self.assertEqual(least_clan(form, (0, 2)), (0, 1, 2))

    def test_refused(self):
        check_refusals(self, is_clan, {"form": PAIRS, "lot": (0, 1)}, {"lot": NO_LOTS})
        bent = (3, BENT[1])
        check_refusals(self, is_clan, {"form": bent, "lot": (0,)}, {"lot": NO_LOTS})
        for lot in ((), (0,), (2,), (0, 1, 2)):
            check_raises(self, Bent, {"which": 1}, is_clan, bent, lot)
        check_refusals(self, least_clan, {"form": PAIRS, "lot": (0, 1)}, {"lot": NO_LOTS + ((),)})
        check_refusals(self, least_clan, {"form": bent, "lot": (0, 1)}, {"lot": NO_LOTS + ((), (2,), (0, 2))})
        check_raises(self, Bent, {"which": 1}, least_clan, bent, (0, 1))
        for lot in ((), (3,), (0, 3), (0, 1, 2, 3)):
            check_raises(self, NotUsable, {"word": "lot", "at": -1}, least_clan, (4, PAIRS[1]), lot)
        for function in (clans_of, strong_clans):
            check_raises(self, Bent, {"which": 1}, function, BENT)
            check_raises(self, Bent, {"which": 0}, function, (3, (((0, 0, 2, 2), Q1), ((1,), Q1))))
