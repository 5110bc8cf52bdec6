import unittest
from random import Random

from sevenruns.errors import InvalidText
from sevenruns.formtexts import form_line, read_form
from tests.samples import BENT, NO_TEXTS, PAIRS, Q0, Q1, Q2, check_raises, check_refusals
from tests.test_forms import RIGHT, random_form

SPOILT = (
    ("", 0), ("2", 0), ("0: 0", 0), ("02: 0", 0), ("-1: 0", 0), (":", 0), ("x: 0", 0), (" 2: 0", 0), ("2 : 0", 0), ("2:: 0", 0),
    ("2:", 1), ("2: ", 1), ("2:  0", 1), ("2: 00", 1), ("2: -0", 1), ("2: 2/4", 1), ("2: x0", 1), ("2: +", 1), ("2: 1/1 x0", 1),
    ("2: 0 x0", 2), ("2: 0 ", 2), ("2: 0 + 1 x0", 2), ("2: 1 x2", 2), ("2: 1 x", 2), ("2: 1 x00", 2), ("2: 1 0", 2),
    ("2: 1 X0", 2), ("2: 1 xx0", 2), ("2: 1 x-1", 2), ("2: 1 ", 2), ("2: 1 x1 x0", 3), ("2: 1 x0 ", 3), ("2: 1 x0+", 2),
    ("2: 1 +", 3), ("2: 1 x0 +", 4), ("2: 1 + ", 3), ("2: 1 + +", 3), ("2: 1 + 0 x0", 3), ("2: 1 + 1", 4),
    ("2: 1 + 1 + 1 x0", 4), ("2: 1 x0 x1 + 1", 6), ("2: 1 x1 + 1 x0", 5), ("2: 1 x0 x1 + 1 x0", 7), ("2: 1 x0 x1 + 1 x0 x0", 7),
    ("2: 1 x0 x1 + 1 x0 x1", 8), ("2: 1 x0 x1 + 1 x0 x1 +", 8), ("2: 1 x0 x1 + 1 x0 + 1 x1", 7), ("1: 1 x0 + 1 x0", 6),
    ("1: 1 x0 + 1 x0 +", 6), ("1: 1 x0 + 1 +", 5), ("2: 1 x0 + 1 x1 + 1 x0", 8), ("2: 1 x0 + x1", 4), ("2: 1 x0\n", 2),
    ("3: 1 x1 x2 + 1 x1 x1", 7), ("3: 1 x1 x2 + 1 x0 x2", 6),
)


class FormTexts(unittest.TestCase):
    def test_examples(self):
        self.assertEqual(form_line((3, (((), (4, 1)), ((0, 1), Q1), ((2,), (-1, 2))))), "3: 4 + 1 x0 x1 + -1/2 x2")
        check_raises(self, InvalidText, {"line": 0, "field": 5}, read_form, "2: 1 x1 + 1 x0")

    def test_written_and_read(self):
        rng = Random(14)
        for form in RIGHT + tuple(random_form(rng, rng.randint(1, 4), many=6) for _ in range(100)):
            self.assertEqual(read_form(text=form_line(form=form)), form)
            self.assertEqual(form_line(read_form(form_line(form))), form_line(form))

    def test_lines(self):
        self.assertEqual(form_line((4, ())), "4: 0")
        self.assertEqual(form_line((1, (((), (-1, 2)),))), "1: -1/2")
        self.assertEqual(form_line(BENT), "2: 1 + 2 x0 x1 x1")
        self.assertEqual(form_line(PAIRS), "3: 1 x0 x1 + 1 x0 x2 + 1 x1 x2")
        self.assertEqual(form_line((12, (((0, 10, 11), Q2),))), "12: 2 x0 x10 x11")

    def test_beyond_the_limits(self):
        self.assertEqual(read_form("40: 1 x39"), (40, (((39,), Q1),)))
        self.assertEqual(read_form("1: 1" + " x0" * 30), (1, (((0,) * 30, Q1),)))
        self.assertEqual(read_form("1: 0"), (1, ()))
        self.assertEqual(read_form("1: 1 x0 + 2 x0 x0"), (1, (((0,), Q1), ((0, 0), Q2))))

    def test_spoilt(self):
        for text, field in SPOILT:
            check_raises(self, InvalidText, {"line": 0, "field": field}, read_form, text)

    def test_every_start_of_a_text_goes_on(self):
        for form in RIGHT:
            fields = form_line(form).split(" ")
            for many in range(1, len(fields)):
                try:
                    read_form(" ".join(fields[:many]))
                except InvalidText as refused:
                    self.assertEqual((refused.line, refused.field), (0, many))
                check_raises(self, InvalidText, {"line": 0, "field": many}, read_form, " ".join(fields[:many] + ["?"] + fields))

    def test_refused(self):
        check_refusals(self, read_form, {"text": "2: 0"}, {"text": NO_TEXTS})
        self.assertEqual(read_form("2: 0"), (2, ()))
        self.assertEqual(read_form("2: -1/2 x0"), (2, (((0,), (-1, 2)),)))
        self.assertEqual(read_form("2: 1 x0 + 1 x1"), (2, (((0,), Q1), ((1,), Q1))))
        self.assertNotEqual(read_form("2: 1"), (2, (((), Q0),)))
