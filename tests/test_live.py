import unittest
from random import Random

from sevenruns.errors import InvalidEvent, NothingToUndo
from sevenruns.live import LiveUnits
from sevenruns.liveasks import LiveAsks
from tests.live_samples import DONE, FLOW, LEAK, NO_EVENTS, after_slowly, random_event, reason_slowly
from tests.samples import NOTHINGS, Q0, Q1, UNIT, Wrong, check_raises, check_refusals
from tests.unit_samples import BOTH, OPEN, POOL, PUMP, SELF, fun, random_units, unit

# Events that are refused at BOTH, and the reasons.
BARRED = ((None, "shape"), (("drop", "none"), "unit"), (("side", "pump", "none", 0, UNIT), "function"), (("remove", "pump", "flow"), "last"),
          (("side", "pump", "flow", 2, UNIT), "side"), (("put", SELF[0]), "ring"), (("define", "pump", fun("flow", 1, ("add", 0, 0))), "misfit"))
DAY, DROP_PUMP, DROP_POOL = ("day",), ("drop", "pump"), ("drop", "pool")


def told(live):
    """All that can be asked of living units, without names."""
    return (live.units_now(), live.log(), live.sites_now(), live.keeps_now(), live.sound_now(), live.anew(), live.anew_counts())


def with_events(*events):
    """BOTH, to which the events were done."""
    live = LiveUnits(BOTH)
    for event in events:
        live.go(event)
    return live


class Events(unittest.TestCase):
    def test_example(self):
        live = LiveUnits(BOTH)
        self.assertEqual((live.kind_now("pool", "level"), live.span_now("pool", "level")),
                         (("first", (0, 1), (1, 1), ("product", (((0, 1), 0), ((1, 1), 1)))), ((0, 1), (2, 1))))
        live.side("pump", "flow", 0, ((1, 2), Q1))
        self.assertEqual((live.sites_now(), live.anew()), ((("pool", "level", 0, 0, "sometimes"), ("pool", "level", 0, 1, "always")), ()))
        live.define("pump", ("flow", (UNIT, UNIT), (("add", 0, 1),), ()))
        self.assertEqual((live.anew(), live.anew_counts()), ((("pool", "level"), ("pump", "flow")), (0, 2)))

    def test_each_word_by_its_method(self):
        methods = {"put": "put", "drop": "drop", "define": "define", "remove": "take_out", "side": "side", "day": "day"}
        names = {"put": ("unit",), "drop": ("name",), "define": ("name", "function"), "remove": ("name", "function"),
                 "side": ("name", "function", "which", "span"), "day": ()}
        start = (POOL, unit("pump", FLOW, LEAK))
        removed = (("remove", "pump", "leak"), (POOL, unit("pump", FLOW)))
        for rows, event, behind in [(BOTH, *row) for row in DONE] + [(start, *removed)]:
            by_position, by_name, by_go = LiveUnits(rows), LiveUnits(units=rows), LiveUnits(rows)
            self.assertIsNone(getattr(by_position, methods[event[0]])(*event[1:]))
            self.assertIsNone(getattr(by_name, methods[event[0]])(**dict(zip(names[event[0]], event[1:]))))
            self.assertIsNone(by_go.go(event=event))
            for live in (by_position, by_name, by_go):
                self.assertEqual((live.units_now(), live.log()), (behind, (event,)))

    def test_on_the_last_unit_and_function(self):
        live = LiveUnits((PUMP,))
        live.put(unit("pump", FLOW, LEAK))
        live.take_out("pump", "leak")
        check_raises(self, InvalidEvent, {"event": ("remove", "pump", "flow"), "reason": "last"}, live.take_out, "pump", "flow")
        live.drop("pump")
        self.assertEqual((live.units_now(), live.sites_now(), live.keeps_now(), live.sound_now()), ((), (), (), True))
        check_raises(self, InvalidEvent, {"event": DROP_PUMP, "reason": "unit"}, live.drop, "pump")
        live.put(unit("a", LEAK))
        self.assertEqual(len(live.log()), 4)

    def test_what_changes_nothing_is_in_the_log(self):
        live = LiveUnits(BOTH)
        for event in (("put", POOL), ("side", "pump", "flow", 0, UNIT), DAY, ("define", "pump", PUMP[1][0]), ("put", POOL)):
            live.go(event)
            self.assertEqual((live.units_now(), live.log()[-1], live.anew()), (BOTH, event, ()))
        self.assertEqual((len(live.log()), live.anew_counts()), (5, (0,) * 5))

    def test_barred(self):
        for event, reason in BARRED:
            live = with_events(DAY)
            self.assertEqual(live.barred(event=event), reason)
            before = told(live)
            check_raises(self, InvalidEvent, {"event": event, "reason": reason}, live.go, event)
            self.assertEqual(told(live), before)
        for event, _ in DONE:
            live = LiveUnits(BOTH)
            self.assertIsNone(live.barred(event))
            self.assertEqual(told(live), told(LiveUnits(BOTH)))

    def test_methods_with_any_values(self):
        live = LiveUnits(BOTH)
        for method, given, event in (
                (live.put, (PUMP[0],), ("put", PUMP[0])), (live.drop, (0,), ("drop", 0)), (live.define, ("pump", PUMP), ("define", "pump", PUMP)),
                (live.take_out, ("pump", None), ("remove", "pump", None)), (live.side, ("pump", "flow", 0, (Q1, Q0)), ("side", "pump", "flow", 0, (Q1, Q0))),
                (live.side, ("pump", "flow", True, UNIT), ("side", "pump", "flow", True, UNIT)), (live.drop, (["pump"],), ("drop", ["pump"])),
                (live.define, ((), ()), ("define", (), ()))):
            check_raises(self, InvalidEvent, {"event": event, "reason": "shape"}, method, *given)
        for thing in NO_EVENTS + (Wrong(),):
            self.assertEqual(live.barred(thing), "shape")
            check_raises(self, InvalidEvent, {"event": thing, "reason": "shape"}, live.go, thing)
        self.assertEqual(told(live), told(LiveUnits(BOTH)))


class ManyEvents(unittest.TestCase):
    def test_all_done(self):
        for keep in (False, True, 1, None):
            live = LiveUnits(BOTH)
            self.assertIsNone(live.do_all(events=(DAY, DROP_PUMP, DAY), keep=keep))
            self.assertEqual(told(live), told(with_events(DAY, DROP_PUMP, DAY)))
            self.assertIsNone(live.do_all(()))
            self.assertEqual(live.log(), (DAY, DROP_PUMP, DAY))
        # Each at the units behind the one before it.
        live.do_all((("put", PUMP), DROP_POOL))
        check_raises(self, InvalidEvent, {"event": DROP_POOL, "reason": "unit"}, live.do_all, (("put", POOL), DROP_POOL, DROP_POOL))

    def test_a_reason_in_the_midst(self):
        for keep in (True, False, 1, 0, None, "", "True", (True,), [], 2):
            for event, reason in BARRED:
                live = with_events(DAY)
                check_raises(self, InvalidEvent, {"event": event, "reason": reason}, live.do_all, (DAY, ("put", POOL), event, None, DAY), keep)
                ahead = (DAY, DAY, ("put", POOL)) if keep is True else (DAY,)
                self.assertEqual(told(live), told(with_events(*ahead)))
        live = with_events(DAY)
        check_raises(self, InvalidEvent, {"event": None, "reason": "shape"}, live.do_all, (DROP_PUMP, None))
        self.assertEqual(told(live), told(with_events(DAY)))

    def test_the_answers_behind_what_was_undone(self):
        live = LiveUnits(BOTH)
        before = told(live)
        with self.assertRaises(InvalidEvent):
            live.do_all((("define", "pump", FLOW), DROP_POOL, DROP_POOL))
        self.assertEqual(told(live), before)
        live.go(DROP_PUMP)
        self.assertEqual(told(live), told(with_events(DROP_PUMP)))
        self.assertIsNone(live.kind_now("pool", "level"))

    def test_tried(self):
        live = with_events(DAY)
        before = told(live)
        self.assertEqual(live.tried(events=()), BOTH)
        self.assertEqual(live.tried((DROP_PUMP, DAY, ("put", unit("pump", FLOW)))), (POOL, unit("pump", FLOW)))
        self.assertEqual(live.tried((DROP_PUMP, DROP_POOL)), ())
        for event, behind in DONE:
            self.assertEqual(live.tried((event,)), behind)
        for event, reason in BARRED:
            check_raises(self, InvalidEvent, {"event": event, "reason": reason}, live.tried, (DAY, event, None))
        check_raises(self, InvalidEvent, {"event": DROP_PUMP, "reason": "unit"}, live.tried, (DROP_PUMP, DROP_PUMP, None))
        self.assertEqual(told(live), before)

    def test_no_tuples_of_events(self):
        wrong = NOTHINGS[:4] + ([], [DAY], {}, 0, "day", Wrong())
        live = with_events(DAY)
        check_refusals(self, live.do_all, {"events": (), "keep": True}, {"events": wrong})
        check_refusals(self, live.do_all, {"events": ()}, {"events": wrong})
        check_refusals(self, live.tried, {"events": ()}, {"events": wrong})
        self.assertEqual(told(live), told(with_events(DAY)))


class Undone(unittest.TestCase):
    def test_undo(self):
        for many in range(4):
            live = with_events(DAY, DROP_PUMP, ("put", unit("pump", FLOW)), DROP_POOL)
            self.assertIsNone(live.undo(steps=4 - many))
            self.assertEqual(told(live), told(with_events(*(DAY, DROP_PUMP, ("put", unit("pump", FLOW)))[:many])))
        live = with_events(DAY, DROP_PUMP)
        live.undo()
        self.assertEqual((live.log(), live.units_now()), ((DAY,), BOTH))
        live.undo()
        self.assertEqual(told(live), told(LiveUnits(BOTH)))

    def test_of_more_than_there_are(self):
        for live, steps in ((LiveUnits(BOTH), 1), (with_events(DAY, DROP_PUMP), 3), (with_events(DAY), 10 ** 30)):
            before = told(live)
            check_raises(self, NothingToUndo, {"steps": steps}, live.undo, steps)
            self.assertEqual(told(live), before)
        check_raises(self, NothingToUndo, {"steps": 1}, LiveUnits(()).undo)

    def test_refused(self):
        live = with_events(DAY, DAY)
        check_refusals(self, live.undo, {"steps": 1}, {"steps": NOTHINGS + (0, -1, Q1, "1", [1])})
        self.assertEqual(live.log(), (DAY, DAY))

    def test_other_events_behind(self):
        live = with_events(DROP_PUMP, ("put", unit("pump", FLOW)))
        self.assertEqual(live.kind_now("pool", "level"), ("first", Q0, Q1, ("sum", ((2, 0), (1, 1)))))
        live.undo(2)
        live.put(PUMP)
        self.assertEqual(told(live), told(with_events(("put", PUMP))))
        self.assertEqual(live.kind_now("pool", "level"), ("first", Q0, Q1, ("product", ((Q0, 0), (Q1, 1)))))

    def test_as_slowly(self):
        rng = Random(891)
        for rows in [BOTH, OPEN, ()] * 6 + [random_units(rng) for _ in range(30)]:
            live, states, log = LiveUnits(rows), [rows], []
            for _ in range(10):
                if log and rng.random() < 0.2:
                    steps = rng.randint(1, len(log))
                    live.undo(steps)
                    del states[-steps:], log[-steps:]
                    continue
                event = random_event(rng, states[-1])
                reason = reason_slowly(states[-1], event)
                self.assertEqual(live.barred(event), reason)
                if reason is None:
                    live.go(event)
                    states.append(after_slowly(states[-1], event))
                    log.append(event)
                else:
                    check_raises(self, InvalidEvent, {"event": event, "reason": reason}, live.go, event)
                if rng.random() < 0.3:
                    live.anew()
                self.assertEqual((live.units_now(), live.log()), (states[-1], tuple(log)))
            self.assertEqual(len(live.anew_counts()), len(log))


class Equal(unittest.TestCase):
    def test_equal(self):
        logs = ((), (DAY,), (DAY, DAY), (DROP_PUMP,), (DROP_PUMP, ("put", PUMP)), (("put", PUMP),), (("put", POOL),))
        for one in logs:
            for other in logs:
                self.assertIs(with_events(*one) == with_events(*other), one == other)
                self.assertIs(with_events(*one) != with_events(*other), one != other)
        # Other units at the start, the same ones now.
        begun = LiveUnits((POOL,))
        begun.put(PUMP)
        self.assertIs(begun == with_events(("put", PUMP)), True)
        self.assertIs(begun == LiveUnits(BOTH), False)
        self.assertIs(LiveUnits((POOL,)) == LiveUnits(BOTH), False)

    def test_what_was_asked_does_not_matter(self):
        one, other = with_events(DROP_PUMP), with_events(DROP_PUMP)
        told(one)
        self.assertIs(one == other, True)
        one.go(DAY)
        self.assertIs(one == other, False)
        one.undo()
        self.assertIs(other == one, True)

    def test_others(self):
        live = LiveUnits(BOTH)
        for other in (LiveAsks(BOTH), BOTH, (), None, True, "x", Wrong()):
            self.assertIs(live == other, False)
            self.assertIs(other == live, False)

    def test_objects_do_not_share(self):
        one, other = LiveUnits(BOTH), LiveUnits(BOTH)
        one.go(DROP_PUMP)
        self.assertEqual((other.units_now(), other.log()), (BOTH, ()))
        log = one.log()
        one.go(DAY)
        self.assertEqual(log, (DROP_PUMP,))
