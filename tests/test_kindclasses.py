import unittest

from sevenruns.clans import clans_of
from sevenruns.errors import Bent
from sevenruns.kindclasses import Kind
from sevenruns.kindmaking import kind_of
from sevenruns.kindtexts import kind_line
from sevenruns.kindthings import value_by
from sevenruns.nodes import breadth_by, case_by
from tests.kind_samples import HAND_FORMS, path_form
from tests.samples import BENT, NOTHINGS, PAIRS, Q0, Q1, Q2, SPREAD, Wrong, check_raises, check_refusals, check_refused


class Kinds(unittest.TestCase):
    def test_what_it_tells(self):
        for form, kind in HAND_FORMS:
            made = Kind(form=form)
            self.assertEqual(made.told(), kind)
            self.assertEqual(made.case(), case_by(kind))
            self.assertEqual(made.breadth(), breadth_by(kind))
            self.assertEqual(made.clans(), clans_of(form))
            self.assertEqual(made.line(), kind_line(kind))
            point = tuple((which + 1, 1) for which in range(form[0]))
            self.assertEqual(made.at(point), value_by(kind, point))
            self.assertEqual(made.at(point=point + (Q0,)), value_by(kind, point))
        self.assertEqual(Kind(path_form(5)).breadth(), 5)
        self.assertEqual(Kind(PAIRS).case(), "knotted")

    def test_bent_ones(self):
        made = Kind((4, BENT[1]))
        self.assertEqual(made.told(), ("bent", BENT))
        self.assertEqual(made.case(), "bent")
        self.assertEqual(made.at((Q2, Q1)), (5, 1))
        self.assertEqual(made.line(), kind_line(("bent", BENT)))
        check_raises(self, Bent, {"which": 1}, made.breadth)
        check_raises(self, Bent, {"which": 1}, made.clans)

    def test_equal(self):
        self.assertIs(Kind(PAIRS) == Kind(PAIRS), True)
        # A kind does not hang on the size of the form.
        self.assertIs(Kind(PAIRS) == Kind((5, PAIRS[1])), True)
        self.assertIs(Kind((2, BENT[1])) == Kind((3, BENT[1])), True)
        self.assertIs(Kind(PAIRS) != Kind(PAIRS), False)
        self.assertIs(Kind(PAIRS) == Kind(path_form(4)), False)
        self.assertIs(Kind((1, ())) == Kind((1, (((), Q1),))), False)
        for other in (kind_of(PAIRS), PAIRS, None, True, (), Wrong(), Kind):
            self.assertIs(Kind(PAIRS) == other, False)

    def test_refused(self):
        for form in NOTHINGS + (0, (), (2,), (0, ()), (2, None), (1, (((1,), Q1),)), (1, (((0,), Q0),)), SPREAD, kind_of(PAIRS), [2, ()]):
            check_refused(self, Kind, {"form": form}, "form")
        short = ((Q0,) * 2, [Q0] * 3, ((2, 4),) * 3, ((True, 1),) * 3)
        check_refusals(self, Kind(PAIRS).at, {"point": (Q0,) * 3}, {"point": NOTHINGS + short})
