import unittest
from random import Random

from sevenruns.edits import made_anew
from sevenruns.errors import InvalidEvent, Misfit, Ringed
from sevenruns.live import LiveUnits
from sevenruns.replaying import cut_log, days_of, replayed
from tests.live_samples import FLOW, LEAK, NO_EVENTS, after_slowly, random_event, reason_slowly
from tests.samples import NOTHINGS, Q1, UNIT, Wrong, check_raises, check_refusals
from tests.test_live import DAY, DROP_POOL, DROP_PUMP
from tests.test_liveasks import NO_UNITS
from tests.unit_samples import BOTH, MISFITS, OPEN, POOL, PUMP, RING, SELF, random_units, unit

PUT_PUMP, FLOW_SUM = ("put", PUMP), ("define", "pump", FLOW)
SIDE = ("side", "pump", "flow", 0, (Q1, Q1))
LOG = (DROP_PUMP, PUT_PUMP, DAY, PUT_PUMP, DAY, DROP_POOL)
# Values that are no log; a list of events and a single event are none.
NO_LOGS = tuple((thing,) for thing in NO_EVENTS) + NOTHINGS + (1, [DAY], "day", DAY, (DAY, None), (None, DAY), (LOG,), Wrong())


def log_of(rng, rows, many):
    """A log that can be done to the units."""
    log = ()
    for _ in range(many):
        event = random_event(rng, rows)
        if rng.random() < 0.3:
            event = DAY
        if reason_slowly(rows, event) is None:
            log += (event,)
            rows = after_slowly(rows, event)
    return log


class Replayed(unittest.TestCase):
    def test_by_hand(self):
        live = replayed(units=BOTH, log=LOG)
        self.assertIs(live.__class__, LiveUnits)
        self.assertEqual((live.units_now(), live.log(), live.anew_counts()), ((PUMP,), LOG, (1, 2, 0, 0, 0, 0)))
        self.assertEqual((replayed(BOTH, ()).units_now(), replayed(BOTH, ()).log()), (BOTH, ()))
        self.assertEqual(replayed(BOTH, ()), LiveUnits(BOTH))
        # A living one, to which more can be done, of each call a new one.
        live.undo(6)
        self.assertEqual((live.units_now(), replayed(BOTH, LOG).log()), (BOTH, LOG))

    def test_errors(self):
        for function in (replayed, days_of):
            check_refusals(self, function, {"units": BOTH, "log": LOG}, {"log": NO_LOGS})
            for rows in (RING, MISFITS, None, [], NO_UNITS[-2]):
                # A log that is none comes ahead of units that are none or not linked.
                check_refusals(self, function, {"units": rows, "log": ()}, {"log": (None, [DAY], (DAY, None))})
            for rows in NO_UNITS:
                for log in ((), LOG, (DROP_PUMP, DROP_PUMP)):
                    with self.assertRaises(ValueError) as caught:
                        function(rows, log)
                    self.assertEqual((caught.exception.word, caught.exception.at), ("units", -1))
            # Ahead of events that can not be done.
            check_raises(self, Ringed, {"unit": "a", "function": "f"}, function, SELF, (DROP_PUMP, ("drop", "a")))
            check_raises(self, Misfit, {"unit": "a", "function": "f", "line": 0}, function, MISFITS, (DROP_PUMP,))
            for log, event, reason in (((DROP_PUMP, DAY, DROP_PUMP, ("drop", "none")), DROP_PUMP, "unit"), ((("remove", "pump", "none"),), ("remove", "pump", "none"), "function"),
                                       ((DAY, ("remove", "pump", "flow")), ("remove", "pump", "flow"), "last"), ((DAY, ("put", SELF[0]), DAY), ("put", SELF[0]), "ring"),
                                       ((FLOW_SUM, ("side", "pump", "flow", 2, UNIT)), ("side", "pump", "flow", 2, UNIT), "side")):
                check_raises(self, InvalidEvent, {"event": event, "reason": reason}, function, BOTH, log)


class Days(unittest.TestCase):
    def test_example(self):
        self.assertEqual(days_of(BOTH, LOG), (2, 0))

    def test_by_hand(self):
        for log, days in (((), ()), ((DAY,), (0,)), ((DAY, DAY, DAY), (0, 0, 0)), ((DROP_PUMP, PUT_PUMP), ()), ((DROP_PUMP, DAY), (1,)),
                          # No event between; what comes behind the last day.
                          ((FLOW_SUM, DAY, DAY, FLOW_SUM, DAY, DROP_PUMP), (2, 0, 0)),
                          # Each function once a day, and again on another one.
                          ((FLOW_SUM, PUT_PUMP, FLOW_SUM, DAY), (2,)), ((FLOW_SUM, DAY, PUT_PUMP, DAY), (2, 2)),
                          # Those made anew and then taken out count, too.
                          ((("put", unit("a", LEAK)), ("drop", "a"), DAY), (1,)), ((FLOW_SUM, DROP_PUMP, DROP_POOL, DAY), (2,)),
                          ((SIDE, DAY, SIDE, DAY), (0, 0)), ((("put", unit("a", LEAK, FLOW)), DROP_PUMP, DAY, DAY), (3, 0))):
            self.assertEqual(days_of(units=BOTH, log=log), days)

    def test_units_and_functions_called_day(self):
        rows = (unit("day", LEAK, ("day", *FLOW[1:])),)
        log = (("define", "day", FLOW), ("remove", "day", "day"), DAY, ("put", unit("a", LEAK)), ("drop", "day"), DAY)
        self.assertEqual(days_of(rows, log), (1, 1))

    def test_as_slowly(self):
        rng = Random(901)
        for rows in [BOTH, OPEN, ()] * 8 + [random_units(rng) for _ in range(30)]:
            log, now = log_of(rng, rows, 12), rows
            days, pairs = [], set()
            for event in log:
                behind = after_slowly(now, event)
                pairs |= set(made_anew(now, behind))
                now = behind
                if event == DAY:
                    days.append(len(pairs))
                    pairs = set()
            self.assertEqual(days_of(rows, log), tuple(days))
            self.assertEqual((replayed(rows, log).units_now(), replayed(rows, log).log()), (now, log))


class Cut(unittest.TestCase):
    def test_cut(self):
        for many in range(len(LOG) + 1):
            self.assertEqual(cut_log(log=LOG, many=many), (LOG[:many], LOG[many:]))
        self.assertEqual(cut_log(LOG, 0), ((), LOG))
        self.assertEqual(cut_log(LOG, 6), (LOG, ()))
        self.assertEqual(cut_log((), 0), ((), ()))
        # A log that can be done to no units at all.
        self.assertEqual(cut_log((DROP_PUMP, DROP_PUMP), 1), ((DROP_PUMP,), (DROP_PUMP,)))

    def test_refused(self):
        check_refusals(self, cut_log, {"log": LOG, "many": 6}, {"log": NO_LOGS, "many": NOTHINGS + (-1, 7, 10 ** 30, (1,), Q1)})
        check_refusals(self, cut_log, {"log": (), "many": 0}, {"many": (1, False, -1)})
