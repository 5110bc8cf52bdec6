import unittest
from random import Random

from sevenruns.errors import Bent, NotUsable
from sevenruns.grafting import grafted
from sevenruns.kindforms import form_by
from sevenruns.kindmaking import kind_of
from sevenruns.kindthings import is_kind, lot_of
from tests.kind_samples import BARE_KIND, BENT_KIND, FIRST_KINDS, GAP_KIND, HALF, MINUS, NESTED_TREE, NO_KINDS, PAIRS_KIND, PATH_TREE
from tests.kind_samples import SQUARE_KIND, TIGHT_KIND, random_structured, renamed_slowly, replaced_slowly, value_slowly
from tests.samples import NOTHINGS, Q0, Q1, Q2, check_raises, check_refusals, quot

DIFF = ("first", Q0, Q1, ("sum", ((1, 0), (-2, 1))))
TIMES = ("first", Q0, Q1, ("product", ((Q0, 0), (Q0, 1))))
X, Y, Z = [("first", Q0, Q1, which) for which in range(3)]


def part(base, scale, tree):
    return ("first", base, scale, tree)


class Grafted(unittest.TestCase):
    def test_example(self):
        self.assertEqual(grafted(DIFF, (part(Q1, Q2, 3), part(Q0, Q1, ("sum", ((1, 0), (1, 1)))))),
                         ("first", Q1, (-2, 1), ("sum", ((1, 0), (1, 1), (-1, 3)))))

    def test_by_hand(self):
        total, pair = ("sum", ((1, 2), (3, 3))), ("product", ((Q0, 2), (Q1, 3)))
        for kind, kinds, found in (
                (X, (GAP_KIND,), GAP_KIND), (part(Q1, Q2, 0), (part(HALF, MINUS, 5),), part(Q2, (-2, 1), 5)),
                # A sum in a sum and a product in a product have no seam.
                (DIFF, (part(Q0, Q1, total), X), part(Q0, MINUS, ("sum", ((2, 0), (-1, 2), (-3, 3))))),
                (TIMES, (part(Q0, Q2, pair), X), part(Q0, Q2, ("product", ((Q0, 0), (Q0, 2), (Q1, 3))))),
                # One with a shift in between stays by itself, also if the shift comes of the scale.
                (TIMES, (part(Q1, Q2, pair), X), part(Q0, Q2, ("product", ((Q0, 0), (HALF, pair))))),
                (part(Q0, Q1, ("product", ((MINUS, 0), (Q0, 1)))), (part(Q1, Q1, pair), X),
                 part(Q0, Q1, ("product", ((Q0, 0), (Q0, 2), (Q1, 3))))),
                (DIFF, (part(Q0, Q1, pair), X), part(Q0, MINUS, ("sum", ((2, 0), (-1, pair))))),
                (TIMES, (part(Q0, Q1, total), X), part(Q0, Q1, ("product", ((Q0, 0), (Q0, total))))),
                # A common divisor comes out, the sons come in the sequence of their least inputs, the first whole above 0.
                (DIFF, (part(Q0, (4, 1), 5), part(Q0, (-1, 1), 4)), part(Q0, Q2, ("sum", ((1, 4), (2, 5))))),
                (DIFF, (part(Q0, (2, 3), 1), part(Q0, (1, 2), 0)), part(Q0, (-1, 3), ("sum", ((3, 0), (-2, 1)))))):
            self.assertEqual(grafted(kind=kind, kinds=kinds), found)

    def test_knots_with_their_places_moved_and_changed(self):
        # x0 x1 + x0 x2 + x1 x2 at 5, 2 - x0, 3 x1.
        found = grafted(PAIRS_KIND, (part(Q0, Q1, 5), part(Q2, MINUS, 0), part(Q0, (3, 1), 1)))
        self.assertTrue(is_kind(found))
        self.assertEqual(found, ("first", Q0, (-1, 1), ("knot", (0, 1, 5), (((0, 1), 3), ((0, 2), 1), ((1,), -6), ((1, 2), -3), ((2,), -2)))))
        path = ("first", Q0, Q1, PATH_TREE)
        self.assertEqual(grafted(path, (part(Q0, Q1, 3), part(Q0, Q1, 2), part(Q0, Q1, 1), part(Q0, Q1, 0))), path)

    def test_as_multiplied_out(self):
        rng = Random(651)
        for _ in range(250):
            form = random_structured(rng, most=4)
            kind, size = kind_of(form), 8
            owners = [rng.randrange(form[0]) for _ in range(size)]
            kinds, forms = [], []
            for which in range(form[0]):
                places = [entry for entry in range(size) if owners[entry] == which]
                inner = random_structured(rng, most=len(places)) if places else (1, ())
                forms.append(renamed_slowly(inner, size, places))
                kinds.append(kind_of(forms[-1]))
            if all(kinds[which][0] == "first" for which in lot_of(kind)):
                found = grafted(kind, tuple(kinds))
                self.assertTrue(is_kind(found))
                self.assertEqual(found, kind_of(replaced_slowly(form, size, forms)))

    def test_forty_inputs(self):
        rng = Random(652)
        rows = tuple((("sum", ((1, 2 * k), (-3, 2 * k + 1))), k) for k in range(20))
        for kind in (("first", Q1, Q2, ("sum", tuple((k + 1, k) for k in range(20)))),
                     ("first", Q1, Q2, ("product", tuple(((k, 1), k) for k in range(20))))):
            kinds = tuple(part((k, 1), (1, k + 1), tree) for tree, k in reversed(rows))
            found = grafted(kind, kinds)
            self.assertTrue(is_kind(found))
            self.assertEqual(lot_of(found), tuple(range(40)))
            for _ in range(5):
                point = tuple((rng.randint(-3, 3), 1) for _ in range(40))
                inner = tuple(quot(value_slowly(entry, point)) for entry in kinds)
                self.assertEqual(value_slowly(found, point), value_slowly(kind, inner))

    def test_each_input_by_itself(self):
        for kind in FIRST_KINDS + (BARE_KIND, ("bare", Q0)):
            self.assertEqual(grafted(kind, tuple(part(Q0, Q1, which) for which in range(40))), kind)

    def test_what_is_left_aside(self):
        kinds = (BENT_KIND, X, BARE_KIND, ("first", Q0, Q1, ("sum", ((1, 0), (1, 1)))))
        self.assertEqual(grafted(Y, kinds), X)
        self.assertEqual(grafted(BARE_KIND, ()), BARE_KIND)
        self.assertEqual(grafted(BARE_KIND, kinds), BARE_KIND)

    def test_small_kinds_at_their_values(self):
        rng = Random(653)
        for form in (random_structured(rng, most=6, knots=True) for _ in range(60)):
            kind = kind_of(form)
            kinds = tuple(part((rng.randint(-2, 2), 1), rng.choice((Q1, MINUS, HALF)), 39 - which) for which in range(6))
            point = tuple((rng.randint(-3, 3), 1) for _ in range(40))
            inner = tuple(quot(value_slowly(entry, point)) for entry in kinds)
            self.assertEqual(value_slowly(grafted(kind, kinds), point), value_slowly(kind, inner))
            self.assertEqual(form_by(kind, form[0]), form)

    def test_refused(self):
        wrong = {"kinds": NOTHINGS + ((), (X,), [X, Y], (X, Y, None), (Q0, Q1)) + tuple((X, thing) for thing in NO_KINDS)}
        check_refusals(self, grafted, {"kind": DIFF, "kinds": (X, Y)}, wrong)
        # Kinds beyond the inputs of kind are asked, too.
        check_refusals(self, grafted, {"kind": BARE_KIND, "kinds": ()}, {"kinds": NOTHINGS + ([], (("bare", 1),))})
        check_refusals(self, grafted, {"kind": SQUARE_KIND, "kinds": (X,)}, {"kinds": ((), (None,), (X, 3))})

    def test_meeting_inputs(self):
        both = ("first", Q0, Q1, ("sum", ((1, 0), (1, 1))))
        for kind, kinds, which in ((DIFF, (BARE_KIND, Y), 0), (DIFF, (X, BENT_KIND), 1), (DIFF, (X, X), 1), (DIFF, (both, Y), 1),
                                   (DIFF, (X, both), 1), (DIFF, (BENT_KIND, BARE_KIND), 0), (PAIRS_KIND, (X, Y, both), 2),
                                   (PAIRS_KIND, (X, X, BARE_KIND), 1), (TIGHT_KIND, (both, Z, Y), 2)):
            check_raises(self, NotUsable, {"word": "kinds", "at": which}, grafted, kind, kinds)
        # Only at inputs of kind.
        self.assertEqual(grafted(Z, (X, X, X)), X)

    def test_sequence_of_errors(self):
        bent = ("bent", (3, (((0, 0), Q1), ((2,), Q1))))
        check_raises(self, NotUsable, {"word": "kinds", "at": -1}, grafted, bent, (BARE_KIND, X))
        check_raises(self, NotUsable, {"word": "kinds", "at": -1}, grafted, DIFF, (X, X, "x"))
        check_raises(self, NotUsable, {"word": "kinds", "at": 0}, grafted, bent, (BARE_KIND, X, X))
        check_raises(self, NotUsable, {"word": "kinds", "at": 2}, grafted, bent, (X, BARE_KIND, X))
        check_raises(self, Bent, {"which": 0}, grafted, bent, (X, X, Y))
        check_raises(self, Bent, {"which": 1}, grafted, ("bent", (2, (((0,), Q1), ((1, 1), Q1)))), (X, Y))

    def test_knot_in_a_knot(self):
        nested = ("first", Q0, Q1, NESTED_TREE)
        kinds = tuple(part(Q0, Q1, which) for which in (10, 11, 12, 13, 14, 15, 16))
        self.assertTrue(is_kind(grafted(nested, kinds)))
        self.assertEqual(grafted(grafted(nested, kinds), (X,) * 10 + tuple(part(Q0, Q1, which) for which in range(7))), nested)
