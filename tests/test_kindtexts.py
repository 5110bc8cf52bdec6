import unittest
from random import Random

from sevenruns.errors import InvalidText
from sevenruns.expanding import form_of
from sevenruns.formtexts import form_line, read_form
from sevenruns.kindmaking import kind_of
from sevenruns.kindtexts import kind_line, read_kind
from tests.kind_samples import BARE_KIND, BENT_KIND, KINDS, PAIRS_KIND, SHIFTED, random_structured
from tests.samples import NO_TEXTS, Q0, Q1, SPREAD, check_raises, check_refusals
from tests.test_formtexts import SPOILT as FORM_TEXTS

SUM = "first 0 1 sum 2 1 in 0 1 in 1"
PRODUCT = "first 0 1 product 2 0 in 0 1/2 in 1"
KNOT = "first 0 1 knot 3 in 0 in 1 in 2 3 2 0 1 1 2 0 2 1 2 1 2 1"

# (text, the field that is told).
SPOILT = (
    # The kind's word.
    ("", 0), ("x", 0), ("First 0 1 in 0", 0), (" first 0 1 in 0", 0), ("in 0", 0), ("sum 2 1 in 0 1 in 1", 0), ("bare\n0", 0), ("barely 0", 0),
    # Bare: no quotient_word, one too many, too short.
    ("bare", 1), ("bare ", 1), ("bare x", 1), ("bare 2/4", 1), ("bare 01", 1), ("bare +1", 1), ("bare -0", 1), ("bare 1/1", 1), ("bare  1", 1),
    ("bare 0 ", 2), ("bare 0 0", 2), ("bare 0\n", 1), ("bare 1/0", 1), ("bare 1.5", 1),
    # First: base, scale, the tree's word.
    ("first", 1), ("first x", 1), ("first 0", 2), ("first 0 x", 2), ("first 0 2/2", 2), ("first 0 1", 3), ("first 0 1 ", 3), ("first 0 1 x", 3),
    ("first 0 1 0", 3), ("first 0 1 bare", 3), ("first 0 1 IN 0", 3), ("first  0 1 in 0", 1),
    # An input.
    ("first 0 1 in", 4), ("first 0 1 in ", 4), ("first 0 1 in -1", 4), ("first 0 1 in 00", 4), ("first 0 1 in 01", 4), ("first 0 1 in +1", 4),
    ("first 0 1 in 1/2", 4), ("first 0 1 in x0", 4), ("first 0 1 in 0 0", 5), ("first 0 1 in 0 ", 5),
    # Sums: how many, wholes, trees.
    ("first 0 1 sum", 4), ("first 0 1 sum x", 4), ("first 0 1 sum -2", 4), ("first 0 1 sum 02", 4), ("first 0 1 sum 2", 5), ("first 0 1 sum 2 x", 5),
    ("first 0 1 sum 2 1/2 in 0 1 in 1", 5), ("first 0 1 sum 2 +1 in 0 1 in 1", 5), ("first 0 1 sum 2 01 in 0 1 in 1", 5),
    ("first 0 1 sum 2 -0 in 0 1 in 1", 5), ("first 0 1 sum 2 1", 6), ("first 0 1 sum 2 1 in", 7), ("first 0 1 sum 2 1 in 0", 8),
    ("first 0 1 sum 2 1 in 0 in 1", 8), ("first 0 1 sum 2 1 in 0 1 0", 9), (SUM + " 1", 11), (SUM + " 1 in 2", 11), (SUM + " ", 11),
    ("first 0 1 sum 3 1 in 0 1 in 1", 11), ("first 0 1 sum 1000000000000 1 in 0 1 in 1", 11), ("first 0 1 sum 2 1 1", 6),
    # Products: shifts are quotients.
    ("first 0 1 product 2 1/2", 6), ("first 0 1 product 2 2/4 in 0 0 in 1", 5), ("first 0 1 product 2 0 in 0", 8), (PRODUCT + " 0", 11),
    ("first 0 1 product 2 0 in 0 x in 1", 8), ("first 0 1 product", 4), ("first 0 1 product 2 in 0 in 1", 5),
    # Knots: sons, terms, places, wholes.
    ("first 0 1 knot", 4), ("first 0 1 knot 3", 5), ("first 0 1 knot 3 0 in 0", 5), ("first 0 1 knot 3 in 0 in 1 in 2", 11),
    ("first 0 1 knot 3 in 0 in 1 in 2 x", 11), ("first 0 1 knot 3 in 0 in 1 in 2 3", 12), ("first 0 1 knot 3 in 0 in 1 in 2 3 2", 13),
    ("first 0 1 knot 3 in 0 in 1 in 2 3 2 0", 14), ("first 0 1 knot 3 in 0 in 1 in 2 3 2 0 1", 15),
    ("first 0 1 knot 3 in 0 in 1 in 2 3 2 0 1 1", 16), ("first 0 1 knot 3 in 0 in 1 in 2 3 2 0 1 x", 15),
    ("first 0 1 knot 3 in 0 in 1 in 2 3 2 0 -1 1", 14), ("first 0 1 knot 3 in 0 in 1 in 2 3 2 0 1 1/2", 15), (KNOT + " 1", 24), (KNOT + " ", 24),
    ("first 0 1 knot 3 in 0 in 1 in 2 -3", 11), ("first 0 1 knot 3 in 0 in 1 in 2 3 -2", 12),
    # The sort of a field ahead of what the fields together are.
    ("first 0 0 in 99 x", 5), ("first 0 1 sum 0 x", 5), ("first 0 1 sum 2 0 in 7 0 in x", 10),
    # Of its sort, but no kind.
    ("first 0 0 in 0", 0), ("first 0 1 in 40", 0), ("first 0 1 in 1000000", 0), ("first 0 1 sum 0", 0), ("first 0 1 sum 1 1 in 0", 0),
    ("first 0 1 sum 2 2 in 0 2 in 1", 0), ("first 0 1 sum 2 0 in 0 1 in 1", 0), ("first 0 1 sum 2 -1 in 0 1 in 1", 0),
    ("first 0 1 sum 2 1 in 1 1 in 0", 0), ("first 0 1 sum 2 1 in 0 1 in 0", 0), ("first 0 1 sum 2 1 in 0 1 sum 2 1 in 1 1 in 2", 0),
    ("first 0 1 product 1 0 in 0", 0), ("first 0 1 product 2 0 in 0 0 product 2 0 in 1 0 in 2", 0), ("first 0 1 knot 0 0", 0),
    ("first 0 1 knot 3 in 0 in 1 in 2 0", 0), ("first 0 1 knot 3 in 0 in 1 in 2 1 3 0 1 2 1", 0), ("first 0 1 knot 3 in 0 in 1 in 2 1 0 1", 0),
    ("first 0 1 knot 3 in 0 in 1 in 2 3 2 0 1 1 2 0 2 1 2 1 3 1", 0), ("first 0 1 knot 3 in 0 in 1 in 2 3 2 1 0 1 2 0 2 1 2 1 2 1", 0),
    # A text that is of its sort, but far too deep for a kind.
    ("first 0 1 " + "sum 1 1 " * 498 + "in 0", 0), ("first 0 1 " + "product 1 0 " * 330 + "in 0", 0), ("first 0 1 " + "knot 1 " * 500, 1003),
    ("first 0 1 " + "sum 2 1 in 0 1 " * 200 + "in 0", 0),
    # Bent: read_form's field and 1.
    ("bent", 1), ("bent ", 1), ("bent 2", 1), ("bent 2:", 2), ("bent x: 0", 1), ("bent 02: 0", 1), ("bent 2: 1 x1 + 1 x0", 6), ("bent 2: 1 x0 x0 ", 5),
    ("bent 2: 1 x0 x0 + 1 x1 x0", 8), ("bent  2: 1 x0 x0", 1), ("bent 2: 0 0", 3), ("bent 1: 1 x0 x1", 4),
    # A form, but none of a bent kind.
    ("bent 2: 0", 0), ("bent 1: 1 x0", 0), ("bent 2: 1 x0 x0", 0), ("bent 2: 1 x0 x1", 0), ("bent 3: 1 x0 x1 x1", 0),
)


class KindTexts(unittest.TestCase):
    def test_examples(self):
        self.assertEqual(kind_line(kind_of(form_of(SPREAD))), "first 0 1 product 2 0 in 0 0 sum 2 1 in 1 1 in 2")
        check_raises(self, InvalidText, {"line": 0, "field": 8}, read_kind, "first 0 1 sum 2 1 in 0")

    def test_lines(self):
        for kind, text in ((BARE_KIND, "bare -5/2"), (BENT_KIND, "bent " + form_line(BENT_KIND[1])), (("first", Q0, (-1, 3), 39), "first 0 -1/3 in 39"),
                           (PAIRS_KIND, KNOT), (("first", Q0, Q1, SHIFTED), "first 0 1 product 2 1 product 2 0 in 0 0 in 1 0 in 2"),
                           (("first", (1, 2), Q1, ("sum", ((2, 0), (-3, 1)))), "first 1/2 1 sum 2 2 in 0 -3 in 1")):
            self.assertEqual(kind_line(kind=kind), text)
            self.assertEqual(read_kind(text=text), kind)

    def test_there_and_back(self):
        rng = Random(221)
        for kind in KINDS + tuple(kind_of(random_structured(rng, most=8)) for _ in range(100)):
            text = kind_line(kind)
            self.assertEqual(read_kind(text), kind)
            self.assertEqual(kind_line(read_kind(text)), text)

    def test_spoilt(self):
        for text, field in SPOILT:
            check_raises(self, InvalidText, {"line": 0, "field": field}, read_kind, text)

    def test_texts_that_end_too_soon(self):
        for kind in KINDS:
            fields = kind_line(kind).split(" ")
            for many in range(1, len(fields) if kind[0] != "bent" else 1):
                check_raises(self, InvalidText, {"line": 0, "field": many}, read_kind, " ".join(fields[:many]))

    def test_bent_texts_are_refused_as_those_of_forms(self):
        for text, _ in FORM_TEXTS:
            with self.assertRaises(InvalidText) as caught:
                read_form(text)
            check_raises(self, InvalidText, {"line": 0, "field": caught.exception.field + 1}, read_kind, "bent " + text)

    def test_refused(self):
        check_refusals(self, read_kind, {"text": SUM}, {"text": NO_TEXTS})
