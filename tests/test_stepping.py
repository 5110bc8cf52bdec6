import unittest
from random import Random

from sevenruns.errors import InvalidEvent
from sevenruns.stepping import units_after
from sevenruns.unitthings import is_units
from tests.live_samples import DONE, FLOW, LEAK, NO_EVENTS, after_slowly, random_event, reason_slowly
from tests.samples import UNIT, check_raises
from tests.unit_samples import BOTH, MISFITS, OPEN, POOL, PUMP, RING, SELF, random_units, unit


class Steps(unittest.TestCase):
    def test_by_hand(self):
        for event, behind in DONE:
            with self.subTest(event=event):
                self.assertEqual(units_after(units=BOTH, event=event), behind)
        self.assertEqual(units_after((PUMP,), ("drop", "pump")), ())
        self.assertEqual(units_after((), ("put", PUMP)), (PUMP,))
        self.assertEqual(units_after((), ("day",)), ())
        self.assertEqual(units_after((unit("pump", FLOW, LEAK),), ("remove", "pump", "flow")), (unit("pump", LEAK),))
        self.assertEqual(units_after(SELF, ("remove", "a", "f")), ((SELF[0][0], SELF[0][1][1:]),))

    def test_refused(self):
        for rows, event, reason in (
                (BOTH, ("drop", "none"), "unit"), (BOTH, ("side", "pump", "none", 0, UNIT), "function"), (BOTH, ("remove", "pump", "flow"), "last"),
                (BOTH, ("side", "pump", "flow", 2, UNIT), "side"), (RING, ("day",), "ring"), (MISFITS, ("day",), "misfit"), (BOTH, ("put", SELF[0]), "ring")):
            check_raises(self, InvalidEvent, {"event": event, "reason": reason}, units_after, rows, event)
        for event in NO_EVENTS:
            check_raises(self, InvalidEvent, {"event": event, "reason": "shape"}, units_after, BOTH, event)
        # The very object is kept.
        event = ["day"]
        with self.assertRaises(InvalidEvent) as caught:
            units_after(BOTH, event)
        self.assertIs(caught.exception.event, event)

    def test_as_slowly(self):
        rng = Random(862)
        many = 0
        for rows in [BOTH, OPEN, (POOL,), ()] * 20 + [random_units(rng) for _ in range(150)]:
            for _ in range(5):
                event = random_event(rng, rows)
                if reason_slowly(rows, event) is None:
                    many += 1
                    behind = units_after(rows, event)
                    self.assertEqual(behind, after_slowly(rows, event))
                    self.assertTrue(is_units(behind))
                    rows = behind
        self.assertGreater(many, 200)
