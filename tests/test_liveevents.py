import unittest

from sevenruns.liveevents import is_event, is_log
from tests.live_samples import EVENTS, NO_EVENTS
from tests.samples import Q0, UNIT, Wrong
from tests.unit_samples import MISFITS, SELF


class Events(unittest.TestCase):
    def test_events(self):
        for event in EVENTS + (("put", SELF[0]), ("put", MISFITS[0]), ("define", "a", SELF[0][1][0])):
            with self.subTest(event=event):
                self.assertIs(is_event(thing=event), True)
                self.assertIs(is_event(list(event)), False)
                self.assertIs(is_event(event + (None,)), False)
                self.assertIs(is_event(event[:-1]), False)

    def test_what_is_none(self):
        for thing in NO_EVENTS + (Wrong(), EVENTS, (Q0, UNIT), -1):
            with self.subTest(thing=thing):
                self.assertIs(is_event(thing), False)

    def test_logs(self):
        for log in ((), EVENTS, EVENTS * 4, (("day",),), (("day",), ("day",))) + tuple((event,) for event in EVENTS):
            self.assertIs(is_log(thing=log), True)
            self.assertIs(is_log(list(log)), False)
        for thing in NO_EVENTS:
            with self.subTest(thing=thing):
                self.assertIs(is_log((thing,)), False)
                self.assertIs(is_log(EVENTS + (thing,)), False)
                self.assertIs(is_log((thing,) + EVENTS), False)
        for thing in (None, True, 0, "", "day", [], ("day",), {}, Wrong(), (EVENTS,), (Wrong(),)):
            self.assertIs(is_log(thing), False)
