import unittest
from random import Random

from sevenruns.edits import made_anew
from sevenruns.errors import Bent, Misfit, Missing, Ringed
from sevenruns.kindspans import span_by
from sevenruns.live import LiveUnits
from sevenruns.liveasks import LiveAsks
from sevenruns.sites import all_sound, keeps_of, sites_of
from sevenruns.unitkinds import kinds_of
from tests.live_samples import DONE, random_event, reason_slowly
from tests.samples import NOTHINGS, Q0, Q1, UNIT, Wrong, check_raises, check_refusals
from tests.test_unitkinds import NO_NAMES
from tests.unit_samples import BOTH, HAND_UNITS, LEVEL, MISFITS, MIXED, OPEN, RING, RING_AND_MISFIT, SELF, UNITS, fun, random_units, tables, unit, units

NO_UNITS = NOTHINGS[:3] + (1, "x", [], [LEVEL], LEVEL, BOTH[::-1], (None,), (LEVEL, LEVEL), ((),), Wrong())


def missing_slowly(rows, pair):
    """The missing functions that the function calls, over others or not."""
    functions = tables(rows)
    if pair not in functions:
        return {pair}
    return {own for line in functions[pair][2] if line[0] == "call" for own in missing_slowly(rows, line[1:3])}


class Asks(unittest.TestCase):
    def check(self, asks, rows):
        """All answers are those for these units."""
        self.assertEqual((asks.units_now(), asks.sites_now(), asks.keeps_now(), asks.sound_now()), (rows, sites_of(rows), keeps_of(rows), all_sound(rows)))
        for name, own, kind in kinds_of(rows):
            self.assertEqual(asks.kind_now(unit=name, function=own), kind)
            missing = missing_slowly(rows, (name, own))
            if kind is None:
                check_raises(self, Missing, {"unit": min(missing)[0], "function": min(missing)[1]}, asks.span_now, name, own)
            elif kind[0] == "bent":
                twice = min(which for bundle, _ in kind[1][1] for which in bundle if bundle.count(which) > 1)
                check_raises(self, Bent, {"which": twice}, asks.span_now, name, own)
            else:
                self.assertEqual(asks.span_now(unit=name, function=own), span_by(kind, tables(rows)[(name, own)][1]))

    def test_units_that_stay(self):
        rng = Random(881)
        for rows in [*HAND_UNITS] + [random_units(rng) for _ in range(60)]:
            asks = LiveAsks(units=rows)
            self.check(asks, rows)
            self.assertEqual((asks.anew(), asks.anew_counts()), ((), ()))

    def test_by_hand(self):
        asks = LiveAsks(BOTH)
        self.assertEqual((asks.span_now("pump", "flow"), asks.span_now("pool", "level")), (UNIT, (Q0, (2, 1))))
        asks = LiveAsks(MIXED)
        # A bare kind; what is bent on the way only; a kind that has less inputs than the function.
        self.assertEqual((asks.span_now("mix", "gone"), asks.span_now("mix", "flat"), asks.span_now("out", "f")), (((-3, 2),) * 2, UNIT, ((-1, 1), Q1)))
        check_raises(self, Bent, {"which": 0}, asks.span_now, "mix", "bent")
        check_raises(self, Bent, {"which": 1}, asks.span_now, "mix", "same")
        asks = LiveAsks(OPEN)
        self.assertIsNone(asks.kind_now("a", "f"))
        check_raises(self, Missing, {"unit": "no", "function": "f"}, asks.span_now, "a", "f")
        check_raises(self, Missing, {"unit": "no", "function": "no"}, asks.span_now, "b", "j")
        check_raises(self, Bent, {"which": 0}, asks.span_now, "a", "free")

    def test_by_itself_it_has_no_events(self):
        asks = LiveAsks(BOTH)
        for name in ("put", "drop", "define", "take_out", "side", "day", "go", "barred", "do_all", "undo", "tried", "log"):
            self.assertFalse(hasattr(asks, name), name)
        self.assertIsInstance(LiveUnits(BOTH), LiveAsks)
        self.assertEqual(LiveUnits.__bases__, (LiveAsks,))

    def test_behind_events(self):
        for event, behind in DONE:
            live = LiveUnits(BOTH)
            live.go(event)
            self.check(live, behind)
            anew = made_anew(BOTH, behind)
            self.assertEqual((live.anew(), live.anew_counts()), (anew, (len(anew),)))

    def test_behind_many_events(self):
        rng = Random(882)
        for rows in [BOTH, OPEN, ()] * 4 + [random_units(rng) for _ in range(25)]:
            live, states = LiveUnits(rows), [rows]
            for _ in range(6):
                event = random_event(rng, states[-1])
                if reason_slowly(states[-1], event) is None:
                    live.go(event)
                    states.append(live.units_now())
                    # Not asked behind each event: what is known so far does not matter.
                    if rng.random() < 0.5:
                        self.check(live, states[-1])
            self.check(live, states[-1])
            anew = [made_anew(one, other) for one, other in zip(states, states[1:])]
            self.assertEqual((live.anew(), live.anew_counts()), (anew[-1] if anew else (), tuple(map(len, anew))))

    def test_anew(self):
        live = LiveUnits(BOTH)
        self.assertEqual((live.anew(), live.anew_counts()), ((), ()))
        live.day()
        live.define("pump", fun("flow", 2, ("add", 0, 1)))
        self.assertEqual(live.anew(), (("pool", "level"), ("pump", "flow")))
        live.drop("pump")
        self.assertEqual(live.anew(), (("pool", "level"),))
        live.drop("pool")
        self.assertEqual((live.anew(), live.anew_counts()), ((), (0, 2, 1, 0)))
        # What was undone does not count.
        live.undo(2)
        self.assertEqual((live.anew(), live.anew_counts()), ((("pool", "level"), ("pump", "flow")), (0, 2)))
        live.undo(2)
        self.assertEqual((live.anew(), live.anew_counts()), ((), ()))

    def test_refused(self):
        for kind in (LiveAsks, LiveUnits):
            check_refusals(self, kind, {"units": UNITS}, {"units": NO_UNITS})
            for rows in (SELF, RING, RING_AND_MISFIT):
                check_raises(self, Ringed, {"unit": "a", "function": "f"}, kind, rows)
            check_raises(self, Misfit, {"unit": "a", "function": "f", "line": 0}, kind, MISFITS)
            later = units(unit("a", fun("f", 1, ("num", Q1)), fun("z", 1, ("num", Q0), ("call", "b", "g", (0,)))), unit("b", fun("g", 2, ("call", "a", "f", (0, 1)))))
            check_raises(self, Misfit, {"unit": "a", "function": "z", "line": 1}, kind, later)
            for rows in (UNITS, OPEN):
                asks = kind(rows)
                for function in (asks.kind_now, asks.span_now):
                    check_refusals(self, function, {"unit": rows[0][0], "function": rows[0][1][0][0]}, {"unit": NO_NAMES, "function": NO_NAMES + ("flow", "g")})
                self.assertEqual((asks.units_now(), asks.anew_counts()), (rows, ()))
