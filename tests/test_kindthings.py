import unittest
from random import Random

from sevenruns.kindthings import is_kind, lot_of, value_by
from tests.kind_samples import BARE_KIND, BENT_KIND, GAP_KIND, KINDS, NO_KINDS, SQUARE_KIND, TIGHT_KIND, lot_slowly, value_slowly
from tests.samples import BENT, NOTHINGS, Q0, Q1, Q2, check_refusals, form_value, frac, quot, random_number


class KindThings(unittest.TestCase):
    def test_kinds(self):
        for kind in KINDS:
            self.assertIs(is_kind(thing=kind), True)
        for thing in NO_KINDS:
            self.assertIs(is_kind(thing), False)

    def test_lots(self):
        for kind in KINDS:
            self.assertEqual(lot_of(kind=kind), lot_slowly(kind))
        self.assertEqual(lot_of(GAP_KIND), (7, 20, 39))
        self.assertEqual(lot_of(BENT_KIND), (0, 1))
        self.assertEqual(lot_of(("bent", (40, (((3,), Q1), ((39, 39), Q1))))), (3, 39))
        self.assertEqual(lot_of(BARE_KIND), ())

    def test_values(self):
        rng = Random(111)
        for kind in KINDS:
            if kind[0] != "bent":
                for _ in range(8):
                    point = tuple(random_number(rng) for _ in range(40))
                    self.assertEqual(value_by(kind=kind, point=point), quot(value_slowly(kind, point)))
        self.assertEqual(value_by(TIGHT_KIND, ((3, 1), (1, 2), Q2)), (15, 2))
        self.assertEqual(value_by(BENT_KIND, (Q2, (3, 1))), quot(form_value(BENT, (Q2, (3, 1)))))
        self.assertEqual(value_by(("bent", (3, (((0,), Q1), ((2, 2), Q2)))), (Q1, Q0, (3, 1))), (19, 1))

    def test_points_may_be_longer_and_empty(self):
        self.assertEqual(value_by(BARE_KIND, ()), (-5, 2))
        self.assertEqual(value_by(BARE_KIND, (Q1,)), (-5, 2))
        for more in range(5):
            self.assertEqual(value_by(TIGHT_KIND, (Q2, Q1, Q1) + (Q2,) * more), (4, 1))
            self.assertEqual(value_by(SQUARE_KIND, (Q2,) + (Q1,) * more), (4, 1))
        self.assertEqual(value_by(("first", Q0, Q1, 0), (Q2, Q0)), Q2)

    def test_refused(self):
        short = NOTHINGS + (Q1, (), (Q0, Q0), [Q0, Q0, Q0], (Q0, Q0, (2, 4)), (Q0, Q0, 1), (Q0, Q0, Q0, None))
        check_refusals(self, value_by, {"kind": TIGHT_KIND, "point": (Q0,) * 3}, {"point": short})
        check_refusals(self, value_by, {"kind": BENT_KIND, "point": (Q0,) * 2}, {"point": NOTHINGS + ((), (Q0,), ((2, 4), Q0))})
        check_refusals(self, value_by, {"kind": BARE_KIND, "point": ()}, {"point": NOTHINGS + (0, (1,), ((2, 4),))})
        check_refusals(self, value_by, {"kind": GAP_KIND, "point": (Q0,) * 40}, {"point": ((Q0,) * 39, ((True, 1),) * 40)})

    def test_a_value_hangs_on_the_inputs_of_the_lot(self):
        rng = Random(112)
        for kind in KINDS:
            point = tuple(random_number(rng) for _ in range(40))
            lot = lot_of(kind)
            other = tuple(entry if which in lot else quot(frac(entry) + 1) for which, entry in enumerate(point))
            self.assertEqual(value_by(kind, point), value_by(kind, other))
