"""[93], and (G13) where it is about what an event changes."""

import unittest
from random import Random

from sevenruns.edits import made_anew
from sevenruns.errors import InvalidEvent, LossError, NothingToUndo
from sevenruns.eventtexts import event_text, log_text, read_event, read_log
from sevenruns.live import LiveUnits
from sevenruns.replaying import cut_log, days_of, replayed
from sevenruns.unitkinds import kinds_of
from tests.live_samples import DONE, EVENTS, NO_EVENTS, random_event, reason_slowly
from tests.test_live import BARRED, told
from tests.test_replaying import log_of
from tests.unit_samples import BOTH, HAND_UNITS, OPEN, POOL, PUMP, random_units, tables


def starts(seed, many=30):
    """Units, and a log that can be done to them."""
    rng = Random(seed)
    for rows in [*HAND_UNITS, BOTH, OPEN] + [random_units(rng) for _ in range(many)]:
        yield rng, rows, log_of(rng, rows, 12)


def answers(live):
    """The answers for kinds, spans, sites and keeps, by the functions of the units now."""
    rows = live.units_now()
    return ([(pair, live.kind_now(*pair), span_told(live, pair)) for pair in sorted(tables(rows))], live.sites_now(), live.keeps_now(), live.sound_now())


def span_told(live, pair):
    """The span of the function's values, or the name and the fields of what is raised."""
    try:
        return live.span_now(*pair)
    except LossError as error:
        return (error.__class__.__name__, vars(error))


class Consequences(unittest.TestCase):
    def test_logs_are_read_as_they_were_written(self):
        for _, rows, log in starts(931):
            live = replayed(rows, log)
            self.assertEqual(read_log(log_text(live.log())), live.log())
            for event in log:
                self.assertEqual(read_event(event_text(event)), event)
        self.assertEqual(read_log(log_text(EVENTS)), EVENTS)

    def test_replayed_is_what_was_done(self):
        for rng, rows, log in starts(932):
            live = LiveUnits(rows)
            live.do_all(log)
            self.assertTrue(replayed(rows, live.log()) == live)
            self.assertEqual(told(replayed(rows, live.log())), told(live))
            for _ in range(3):
                if live.log():
                    live.undo(rng.randint(1, len(live.log())))
                event = random_event(rng, live.units_now())
                if live.barred(event) is None:
                    live.go(event)
                self.assertTrue(replayed(rows, live.log()) == live)
                self.assertEqual(told(replayed(rows, live.log())), told(live))

    def test_a_refused_call_changes_nothing(self):
        for rng, rows, log in starts(933, 20):
            live = replayed(rows, log)
            before = (told(live), answers(live))
            for event in NO_EVENTS[:20] + tuple(event for event, _ in BARRED) + tuple(random_event(rng, live.units_now()) for _ in range(6)):
                if live.barred(event) is not None:
                    for call in (live.go, lambda bad: live.do_all((("day",), bad, ("day",))), lambda bad: live.do_all((bad,), True), lambda bad: live.tried((("day",), bad))):
                        with self.assertRaises(InvalidEvent):
                            call(event)
            with self.assertRaises(NothingToUndo):
                live.undo(len(log) + 1)
            for call in (lambda: live.undo(0), lambda: live.do_all(None), lambda: live.tried([]), lambda: live.kind_now("no", "no"), lambda: live.span_now("no", "no")):
                with self.assertRaises(LossError):
                    call()
            self.assertEqual((told(live), answers(live)), before)
            self.assertTrue(live == replayed(rows, log))

    def test_alike_whatever_the_logs_are(self):
        for rng, rows, log in starts(934):
            live = replayed(rows, log)
            now = live.units_now()
            self.assertEqual(answers(live), answers(LiveUnits(now)))
            # Unit by unit, in whatever sequence that may be.
            built = LiveUnits(())
            for row in rng.sample(now, len(now)):
                built.put(row)
            self.assertEqual((built.units_now(), answers(built)), (now, answers(live)))

    def test_side_and_day_make_nothing_anew(self):
        met = {}
        for _, rows, log in starts(935):
            live = LiveUnits(rows)
            for event in log:
                before = {pair: live.kind_now(*pair) for pair in tables(live.units_now())}
                live.go(event)
                anew = live.anew()
                if event[0] in ("side", "day"):
                    met[event[0]] = True
                    self.assertEqual(anew, ())
                # What is not made anew was there before, with the same kind.
                for name, own, kind in kinds_of(live.units_now()):
                    self.assertEqual(live.kind_now(name, own), kind)
                    if (name, own) not in anew:
                        self.assertIn((name, own), before)
                        self.assertEqual(before[(name, own)], kind)
        self.assertEqual(len(met), 2)

    def test_both_logs_of_a_cut(self):
        for _, rows, log in starts(936, 15):
            whole = replayed(rows, log)
            for many in range(len(log) + 1):
                one, other = cut_log(log, many)
                self.assertEqual(one + other, log)
                live = LiveUnits(rows)
                live.do_all(one)
                live.do_all(other)
                self.assertEqual(told(live), told(whole))
                self.assertTrue(live == whole)
                self.assertEqual(replayed(replayed(rows, one).units_now(), other).units_now(), whole.units_now())

    def test_days_of_parts(self):
        # Cut behind a day, the days of both logs are those of the whole log.
        for _, rows, log in starts(937, 15):
            for many in [0] + [k + 1 for k, event in enumerate(log) if event == ("day",)]:
                one, other = cut_log(log, many)
                self.assertEqual(days_of(rows, one) + days_of(replayed(rows, one).units_now(), other), days_of(rows, log))

    def test_kinds_stay_unless_lines_callees_or_their_kinds_change(self):
        for event, behind in DONE:
            live = LiveUnits(BOTH)
            live.go(event)
            self.assertEqual(live.anew(), made_anew(BOTH, behind))
            self.assertIsNone(reason_slowly(BOTH, event))
        # A callee that goes and comes again makes its callers anew.
        live = LiveUnits(BOTH)
        kind = live.kind_now("pool", "level")
        live.drop("pump")
        self.assertEqual((live.kind_now("pool", "level"), live.anew()), (None, (("pool", "level"),)))
        live.put(PUMP)
        self.assertEqual((live.kind_now("pool", "level"), live.anew()), (kind, (("pool", "level"), ("pump", "flow"))))
        live.put(POOL)
        self.assertEqual(live.anew(), ())
