import unittest
from random import Random

from sevenruns.reasons import reason_of
from sevenruns.unitthings import is_units
from tests.live_samples import DONE, EVENTS, FLOW, LEAK, NO_EVENTS, after_slowly, random_event, reason_slowly
from tests.samples import Q0, Q1, UNIT, Wrong
from tests.unit_samples import BOTH, MISFITS, OPEN, POOL, PUMP, RING, RING_AND_MISFIT, SELF, fun, random_units, unit, units

# Calls itself; calls pool.level, which calls it; calls it with one place too many.
OWN = fun("flow", 2, ("call", "pump", "flow", (0, 1)))
BACK = fun("flow", 2, ("call", "pool", "level", (0, 1)))
BACK_AND_SHORT = fun("flow", 1, ("call", "pool", "level", (0, 0)))
SHORT = fun("flow", 1, ("add", 0, 0))
WIDE = fun("wide", 1, ("call", "pump", "flow", (0,)))


class Reasons(unittest.TestCase):
    def check(self, rows, event, reason):
        with self.subTest(event=event):
            found = reason_of(units=rows, event=event)
            self.assertEqual(found, reason)
            self.assertIs(found is None, reason is None)

    def test_examples(self):
        self.assertEqual((reason_of(BOTH, ("drop", "pump")), reason_of(BOTH, ("remove", "pump", "flow"))), (None, "last"))
        self.assertEqual(reason_of(BOTH, ("define", "pump", ("flow", (UNIT,), (("add", 0, 0),), ()))), "misfit")

    def test_none(self):
        for event, _ in DONE:
            self.check(BOTH, event, None)
        # The last unit may be dropped, and a unit put to none.
        self.check((PUMP,), ("drop", "pump"), None)
        self.check((), ("put", PUMP), None)
        self.check((), ("day",), None)
        self.check((("pump", (FLOW, LEAK)),), ("remove", "pump", "flow"), None)
        # What is missing is let, and what is called by nobody with the right number of places.
        self.check(BOTH, ("define", "pool", SHORT), None)
        self.check((PUMP,), ("define", "pump", SHORT), None)

    def test_shape(self):
        for event in NO_EVENTS + (Wrong(), EVENTS):
            for rows in (BOTH, (), SELF, MISFITS):
                self.check(rows, event, "shape")

    def test_unit(self):
        for rows in (BOTH, (), SELF, MISFITS):
            for event in (("drop", "none"), ("define", "none", FLOW), ("remove", "none", "none"), ("side", "none", "flow", 9, UNIT)):
                self.check(rows, event, "unit")
        # A function's name is no unit's.
        self.check(BOTH, ("drop", "flow"), "unit")

    def test_function(self):
        for event in (("remove", "pump", "none"), ("remove", "pump", "level"), ("side", "pump", "none", 0, UNIT), ("side", "pool", "flow", 9, UNIT)):
            self.check(BOTH, event, "function")
        # Ahead of the last function, a side that is none, and rings.
        self.check(SELF, ("remove", "a", "none"), "function")
        self.check(RING_AND_MISFIT, ("side", "a", "none", 5, UNIT), "function")

    def test_last(self):
        self.check(BOTH, ("remove", "pool", "level"), "last")
        self.check(BOTH, ("remove", "pump", "flow"), "last")
        # Ahead of rings, also if it would break the ring.
        self.check(RING_AND_MISFIT, ("remove", "a", "f"), "last")
        self.check(units(SELF[0], PUMP), ("remove", "pump", "flow"), "last")

    def test_side(self):
        for which in (2, 3, 10 ** 12):
            self.check(BOTH, ("side", "pump", "flow", which, UNIT), "side")
        self.check(RING, ("side", "a", "f", 1, UNIT), "side")
        self.check(MISFITS, ("side", "a", "f", 1, UNIT), "side")

    def test_ring(self):
        for event in (("define", "pump", OWN), ("define", "pump", BACK), ("put", unit("pump", OWN)), ("put", unit("pump", BACK, LEAK)), ("put", SELF[0]),
                      # Ahead of misfits.
                      ("define", "pump", BACK_AND_SHORT), ("put", RING_AND_MISFIT[0])):
            self.check(BOTH, event, "ring")
        # Over what was missing before.
        self.check((POOL,), ("put", unit("pump", BACK)), "ring")
        # A ring that was there, for all events.
        for event in (("day",), ("side", "c", "out", 0, UNIT), ("put", PUMP), ("define", "c", fun("f", 1, ("add", 0, 0))), ("drop", "c")):
            self.check(RING, event, "ring")
        self.check(SELF, ("remove", "a", "g"), "ring")
        # And no ring any more.
        self.check(SELF, ("remove", "a", "f"), None)
        self.check(SELF, ("drop", "a"), None)
        self.check(RING, ("define", "b", fun("h", 1, ("add", 0, 0))), None)

    def test_misfit(self):
        for event in (("define", "pump", SHORT), ("define", "pump", WIDE), ("define", "pool", WIDE), ("put", unit("a", WIDE)), ("put", unit("pump", SHORT)),
                      ("put", unit("pump", FLOW, WIDE))):
            self.check(BOTH, event, "misfit")
        self.check((POOL,), ("put", unit("pump", SHORT)), "misfit")
        for event in (("day",), ("side", "b", "g", 0, UNIT), ("put", PUMP), ("define", "b", fun("z", 1, ("add", 0, 0))), ("remove", "b", "h")):
            self.check(MISFITS, event, "misfit")
        # A call of what is missing hands any number of places.
        self.check(MISFITS, ("drop", "a"), None)
        self.check(units(unit("a", WIDE), PUMP), ("drop", "pump"), None)
        self.check(units(unit("a", WIDE), PUMP), ("define", "pump", SHORT), None)

    def test_as_slowly(self):
        rng = Random(861)
        met = {}
        for rows in [BOTH, OPEN, MISFITS, RING, ()] * 20 + [random_units(rng) for _ in range(150)]:
            for _ in range(4):
                event = random_event(rng, rows)
                reason = reason_slowly(rows, event)
                met[reason] = True
                self.check(rows, event, reason)
                if reason not in ("unit", "function", "last", "side"):
                    self.assertTrue(is_units(after_slowly(rows, event)))
        self.assertEqual(set(met), {None, "unit", "function", "last", "side", "ring", "misfit"})
