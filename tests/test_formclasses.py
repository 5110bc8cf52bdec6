import unittest

from sevenruns.errors import NotUsable
from sevenruns.formclasses import Form
from sevenruns.forms import form_plus, form_times
from tests.samples import BENT, PAIRS, Q0, Q1, Q2, Wrong, check_raises, check_refusals, no_points

SUM = ((0,), Q1), ((1,), Q1)
WRONG_TERMS = (None, True, (), ((),), ((2,), Q1), ((True,), Q1), ([0], Q1), ((0,), 1), ((0,), (2, 4)), [(), Q1])


class Forms(unittest.TestCase):
    def test_what_it_tells(self):
        form = Form(2, ((1, 0), Q1), ((), Q0), ((0, 1), (-3, 2)))
        self.assertEqual(form.told(), (2, (((0, 1), (-1, 2)),)))
        self.assertEqual(form.at((Q2, (3, 1))), (-3, 1))
        self.assertEqual(form.at(point=(Q2, (3, 1))), (-3, 1))
        self.assertEqual(form.hangs(), (0, 1))
        self.assertIs(form.first(), True)
        self.assertIs(Form(*BENT[:1], *BENT[1]).first(), False)
        self.assertEqual(Form(3).told(), (3, ()))
        self.assertEqual(Form(1, ((0,), Q1)).told(), (1, (((0,), Q1),)))
        self.assertEqual(Form(3).hangs(), ())

    def test_new_forms(self):
        one, other = Form(2, *SUM), Form(2, ((0,), Q1), ((1,), (-1, 1)))
        self.assertEqual(one.plus(other).told(), form_plus(one.told(), other.told()))
        self.assertEqual(one.times(other=other).told(), form_times(one.told(), other.told()))
        for made in (one.plus(other=other), one.times(other), one.plus(one), one.times(one)):
            self.assertIsInstance(made, Form)
            self.assertIsNot(made, one)
        self.assertEqual((one.told(), other.told()), ((2, SUM), (2, (((0,), Q1), ((1,), (-1, 1))))))
        self.assertEqual(one.times(one).told(), (2, (((0, 0), Q1), ((0, 1), Q2), ((1, 1), Q1))))

    def test_equal(self):
        self.assertIs(Form(2, *SUM) == Form(2, *SUM[::-1]), True)
        self.assertIs(Form(2, *SUM) == Form(2, *SUM, ((0, 1), Q0)), True)
        self.assertIs(Form(2, *SUM) == Form(3, *SUM), False)
        self.assertIs(Form(2, *SUM) == Form(2, SUM[0]), False)
        for other in ((2, SUM), None, True, (), 2, Wrong()):
            self.assertIs(Form(2, *SUM) == other, False)
        self.assertIs(Form(2, *SUM) != Form(2, *SUM), False)

    def test_refused_when_made(self):
        for size in (0, -1, True, None, "1", (1,), Q1):
            check_raises(self, NotUsable, {"word": "size", "at": -1}, Form, size)
            check_raises(self, NotUsable, {"word": "size", "at": -1}, Form, size, None)
        for term in WRONG_TERMS:
            check_raises(self, NotUsable, {"word": "terms", "at": 0}, Form, 2, term, None)
            check_raises(self, NotUsable, {"word": "terms", "at": 1}, Form, 2, ((1, 1), Q0), term)

    def test_refused_by_methods(self):
        form = Form(3, *PAIRS[1])
        others = (None, True, 0, (), PAIRS, Form(2, *SUM), Form(4), Wrong(), Form)
        for method in (form.plus, form.times):
            check_refusals(self, method, {"other": form}, {"other": others})
        check_refusals(self, form.at, {"point": (Q0,) * 3}, {"point": no_points(3)})
