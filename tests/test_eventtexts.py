import unittest
from random import Random

from sevenruns.errors import InvalidText
from sevenruns.eventtexts import event_text, log_text, read_event, read_log
from sevenruns.unittexts import read_unit, unit_text
from tests.live_samples import DONE, EVENTS, NO_EVENTS, random_event
from tests.samples import NO_TEXTS, NOTHINGS, Q0, Q1, UNIT, Wrong, check_raises, check_refusals
from tests.test_replaying import LOG, NO_LOGS
from tests.test_unittexts import WIDE, WIDE_TEXT
from tests.unit_samples import BOTH, MIXED, OPEN, PUMP, random_units

GREAT = 10 ** 900
PUMP_TEXT = "unit pump\ndef flow 0:1 0:1\nmul 0 1\ndone\nend"
# Each text with its event.
TEXTS = (
    ("put\n" + PUMP_TEXT, ("put", PUMP)), ("put\n" + WIDE_TEXT, ("put", WIDE)), ("drop a", ("drop", "a")), ("drop abcdefgh", ("drop", "abcdefgh")),
    ("remove pump flow", ("remove", "pump", "flow")), ("day", ("day",)), ("side pump flow 0 1/2:1", ("side", "pump", "flow", 0, ((1, 2), Q1))),
    ("side a b 12 -3/2:-3/2", ("side", "a", "b", 12, ((-3, 2), (-3, 2)))), (f"side a b {GREAT} -{GREAT}:1/{GREAT}", ("side", "a", "b", GREAT, ((-GREAT, 1), (1, GREAT)))),
    ("define pump\ndef flow 0:1\nadd 0 0\ndone", ("define", "pump", ("flow", (UNIT,), (("add", 0, 0),), ()))),
    # Names that are words of events, too.
    ("drop put", ("drop", "put")), ("drop define", ("drop", "define")), ("remove day put", ("remove", "day", "put")), ("remove side define", ("remove", "side", "define")),
    ("define day\ndef done 0:1\nadd 0 0\ndone", ("define", "day", ("done", (UNIT,), (("add", 0, 0),), ()))),
    ("put\nunit end\ndef end 0:1\nadd 0 0\ndone\nend", ("put", ("end", (("end", (UNIT,), (("add", 0, 0),), ()),)))),
    ("define wide\n" + WIDE_TEXT[len("unit wide\n"):WIDE_TEXT.index("\ndef ab")], ("define", "wide", WIDE[1][0])),
)
# First rows of events that do not fit, and the field.
FIRST_ROWS = (
    ("", 0), (" ", 0), (" day", 0), ("Day", 0), ("days", 0), ("unit a", 0), ("def f 0:1", 0), ("done", 0), ("end", 0), ("take_out a f", 0), ("0", 0), ("put,", 0),
    ("put ", 1), ("put a", 1), ("put a b", 1), ("day ", 1), ("day 1", 1), ("day day", 1), ("drop", 1), ("drop ", 1), ("drop A", 1), ("drop abcdefghi", 1), ("drop 1", 1),
    ("drop a ", 2), ("drop a b", 2), ("drop  a", 1), ("define", 1), ("define ", 1), ("define a1", 1), ("define a f", 2), ("define a ", 2), ("define  a", 1),
    ("remove", 1), ("remove a", 2), ("remove a ", 2), ("remove A f", 1), ("remove a F", 2), ("remove a f ", 3), ("remove a f g", 3), ("remove a  f", 2),
    ("side", 1), ("side a", 2), ("side a f", 3), ("side a f 0", 4), ("side a f 0 ", 4), ("side  a f 0 0:1", 1), ("side A f 0 0:1", 1), ("side a 0 0:1", 2), ("side a f 0:1", 3),
    ("side a f -1 0:1", 3), ("side a f 00 0:1", 3), ("side a f x 0:1", 3), ("side a f 1/2 0:1", 3), ("side a f 0 1:0", 4), ("side a f 0 0", 4), ("side a f 0 0:2/4", 4),
    ("side a f 0 0:1:2", 4), ("side a f 0 0:1 ", 5), ("side a f 0 0:1 0:1", 5), ("side a f 01 1:0", 3),
)
# Rows that stand in the place of one of WIDE_TEXT's rows, or behind it.
SPOILT_ROWS = ("", " ", "x", "unit a", "unit a b", "unit B", "def a 0:1", "def ab 0:1", "def b 0:1", "def b 0:1 x", "def B 0:1", "def b", "num", "num 1/2", "num 2/4", "num 1 1",
               "add 0 1", "add 0 9", "add 0", "add 0 x", "sub 0 1 2", "mul 00 0", "call a b", "call a b 0", "call a b 0 01", "call A b 0", "call a b 99", "keep 0 0:1",
               "keep 99 0:1", "keep 7 1:0", "keep 7", "keep 7 0:1 0", "done", "done ", "done x", "end", "end ", "end x", "day", "put", "drop a", "mix 0 : 0 1")


def refusal_of(text):
    """The line and the field that read_unit tells of a text, None if it is that of a unit."""
    try:
        read_unit(text)
    except InvalidText as error:
        return error.line, error.field
    return None


def spoilt_texts(text):
    """Texts with a row more, less or other than this one."""
    rows = text.split("\n")
    for at in range(len(rows) + 1):
        yield "\n".join(rows[:at])
        yield "\n".join(rows[:at] + rows[at + 1:])
        for row in SPOILT_ROWS:
            yield "\n".join(rows[:at] + [row] + rows[at + 1:])
            yield "\n".join(rows[:at] + [row] + rows[at:])


class EventTexts(unittest.TestCase):
    def refused(self, text, line, field):
        """Refused so as an event, and as the first and the second event of a log."""
        check_raises(self, InvalidText, {"line": line, "field": field}, read_event, text)
        self.refused_log(text, line, field)

    def refused_log(self, text, line, field):
        if text != "":
            check_raises(self, InvalidText, {"line": line, "field": field}, read_log, text)
        for ahead, _ in TEXTS[:4]:
            check_raises(self, InvalidText, {"line": line + len(ahead.split("\n")), "field": field}, read_log, ahead + "\n" + text)

    def test_example(self):
        self.assertEqual(event_text(("define", "pump", ("flow", (UNIT,), (("add", 0, 0),), ()))), "define pump\ndef flow 0:1\nadd 0 0\ndone")

    def test_by_hand(self):
        for text, event in TEXTS:
            self.assertEqual(event_text(event=event), text)
            self.assertEqual(read_event(text=text), event)
            self.assertEqual((log_text((event,)), read_log(text)), (text, (event,)))
        log, text = tuple(event for _, event in TEXTS), "\n".join(text for text, _ in TEXTS)
        self.assertEqual((log_text(log=log), read_log(text=text)), (text, log))
        self.assertEqual((log_text(()), read_log("")), ("", ()))
        self.assertEqual(log_text((("day",),) * 3), "day\nday\nday")
        self.assertEqual(log_text(LOG), f"drop pump\nput\n{PUMP_TEXT}\nday\nput\n{PUMP_TEXT}\nday\ndrop pool")

    def test_written_and_read(self):
        rng = Random(911)
        events = [*EVENTS] + [event for event, _ in DONE] + [("put", row) for rows in (BOTH, OPEN, MIXED) for row in rows]
        events += [random_event(rng, random_units(rng)) for _ in range(200)]
        for event in events:
            self.assertEqual(read_event(event_text(event)), event)
        for _ in range(100):
            log = tuple(rng.choice(events) for _ in range(rng.randint(0, 12)))
            self.assertEqual(read_log(log_text(log)), log)

    def test_first_rows(self):
        for row, field in FIRST_ROWS:
            self.refused(row, 0, field)
            # Whatever comes behind it.
            for behind in ("\n", "\nday", "\n" + PUMP_TEXT, "\nx\nx"):
                self.refused(row + behind, 0, field)

    def test_rows_below_put(self):
        many = 0
        for text in spoilt_texts(WIDE_TEXT):
            refusal = refusal_of(text)
            if refusal is None:
                self.assertEqual(read_event("put\n" + text), ("put", read_unit(text)))
            elif text != "":
                many += 1
                check_raises(self, InvalidText, {"line": refusal[0] + 1, "field": refusal[1]}, read_event, "put\n" + text)
                # In a log another event may come behind the end.
                if "\nend\n" not in text:
                    self.refused_log("put\n" + text, refusal[0] + 1, refusal[1])
        self.assertGreater(many, 500)

    def test_rows_below_define(self):
        many = 0
        rows = WIDE_TEXT[len("unit wide\n"):WIDE_TEXT.index("\ndef ab")]
        for text in spoilt_texts(rows):
            refusal = refusal_of("unit a\n" + text + "\nend")
            if "\ndone\n" in text or text == "":
                continue
            if refusal is None:
                self.assertEqual(read_event("define z\n" + text), ("define", "z", read_unit("unit a\n" + text + "\nend")[1][0]))
            else:
                many += 1
                self.refused("define z\n" + text, *refusal)
        self.assertGreater(many, 500)

    def test_too_few_rows(self):
        for text, _ in TEXTS:
            rows = text.split("\n")
            for many in range(1, len(rows)):
                self.refused("\n".join(rows[:many]), many, 0)
        self.refused("put", 1, 0)
        self.refused("define a", 1, 0)
        self.refused("put\n", 1, 0)
        self.refused("define a\n", 1, 0)
        check_raises(self, InvalidText, {"line": 0, "field": 0}, read_event, "")

    def test_rows_behind(self):
        for text, _ in TEXTS:
            many = len(text.split("\n"))
            for row in ("", "x", "day", "drop A b", "put", "end", "done", "def g 0:1", "add 0 0", "put x"):
                check_raises(self, InvalidText, {"line": many, "field": 0}, read_event, text + "\n" + row)
                check_raises(self, InvalidText, {"line": many, "field": 0}, read_event, text + "\n" + row + "\nday")
            for row, field in FIRST_ROWS:
                check_raises(self, InvalidText, {"line": many, "field": field}, read_log, text + "\n" + row)

    def test_refused(self):
        check_refusals(self, event_text, {"event": ("day",)}, {"event": NO_EVENTS + (Wrong(),)})
        check_refusals(self, log_text, {"log": ()}, {"log": NO_LOGS})
        for function in (read_event, read_log):
            check_refusals(self, function, {"text": "day"}, {"text": NO_TEXTS + (("day",), Q0, NOTHINGS, Wrong())})
