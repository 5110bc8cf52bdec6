import unittest

from sevenruns.errors import Misfit, Missing, Ringed
from sevenruns.linkclasses import Linked
from sevenruns.sites import all_sound, keeps_of, sites_of
from sevenruns.unitkinds import kinds_of
from tests.samples import NOTHINGS, Q0, Q1, Q2, Wrong, check_raises, check_refusals, no_points
from tests.test_unitkinds import NO_NAMES
from tests.unit_samples import BOTH, HAND_UNITS, LEVEL, MISFITS, OPEN, POOL, PUMP, RING, RING_AND_MISFIT, SELF, UNITS, VALVE, fun, unit, units


class LinkedUnits(unittest.TestCase):
    def test_as_the_functions(self):
        for rows in HAND_UNITS:
            linked = Linked(units=rows)
            for name, own, kind in kinds_of(rows):
                self.assertEqual(linked.kind(unit=name, function=own), kind)
            self.assertEqual((linked.sites(), linked.keeps(), linked.sound(), linked.told()), (sites_of(rows), keeps_of(rows), all_sound(rows), rows))
        self.assertEqual(Linked(UNITS).run(unit="tank", function="level", point=(Q1, Q2)), Q1)

    def test_with_unit(self):
        linked = Linked((POOL,))
        more = linked.with_unit(unit=PUMP)
        self.assertIs(more.__class__, Linked)
        self.assertEqual((linked.told(), more.told()), ((POOL,), BOTH))
        self.assertIsNone(linked.kind("pool", "level"))
        self.assertEqual(more.kind("pool", "level"), ("first", Q0, Q1, ("product", ((Q0, 0), (Q1, 1)))))
        # In the place of that of its name, the others as they are.
        other = unit("pool", fun("level", 1, ("add", 0, 0)))
        self.assertEqual(more.with_unit(other).told(), (other, PUMP))
        self.assertEqual(more.told(), BOTH)
        self.assertEqual(Linked(()).with_unit(VALVE).with_unit(LEVEL).told(), UNITS)
        self.assertEqual(more.with_unit(POOL), more)

    def test_equal(self):
        for rows in HAND_UNITS:
            self.assertIs(Linked(rows) == Linked(rows), True)
            for other in HAND_UNITS:
                self.assertIs(Linked(rows) == Linked(other), rows == other)
            for other in (rows, None, (), "x", Wrong()):
                self.assertIs(Linked(rows) == other, False)
        self.assertIs(Linked(UNITS) == Linked((VALVE,)).with_unit(LEVEL), True)

    def test_refused(self):
        check_refusals(self, Linked, {"units": UNITS}, {"units": NOTHINGS[:3] + (1, "x", [], [LEVEL], LEVEL, BOTH[::-1], (None,), (LEVEL, LEVEL))})
        linked = Linked(UNITS)
        check_refusals(self, linked.kind, {"unit": "tank", "function": "level"}, {"unit": NO_NAMES, "function": NO_NAMES + ("flow",)})
        check_refusals(self, linked.run, {"unit": "tank", "function": "level", "point": (Q0, Q1)},
                       {"unit": NO_NAMES, "function": NO_NAMES + ("flow",), "point": no_points(2)})
        check_refusals(self, linked.with_unit, {"unit": VALVE}, {"unit": NOTHINGS + (UNITS, ("valve", ()), list(VALVE))})
        check_raises(self, Missing, {"unit": "no", "function": "f"}, Linked(OPEN).run, "a", "f", (Q0,))

    def test_ringed_and_misfit(self):
        for rows in (SELF, RING, RING_AND_MISFIT):
            check_raises(self, Ringed, {"unit": "a", "function": "f"}, Linked, rows)
        check_raises(self, Misfit, {"unit": "a", "function": "f", "line": 0}, Linked, MISFITS)
        linked = Linked(units(unit("b", fun("g", 1, ("call", "a", "f", (0,))))))
        check_raises(self, Ringed, {"unit": "a", "function": "f"}, linked.with_unit, unit("a", fun("f", 1, ("call", "b", "g", (0, 0)))))
        check_raises(self, Misfit, {"unit": "b", "function": "g", "line": 0}, linked.with_unit, unit("a", fun("f", 2, ("add", 0, 1))))
        self.assertEqual(linked.told(), units(unit("b", fun("g", 1, ("call", "a", "f", (0,))))))
