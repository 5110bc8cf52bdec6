import unittest
from random import Random

from sevenruns.desk import desk_line
from sevenruns.errors import InvalidEvent, InvalidText
from sevenruns.eventtexts import event_text
from sevenruns.kindtexts import kind_line
from sevenruns.live import LiveUnits
from sevenruns.liveasks import LiveAsks
from sevenruns.nodes import case_by
from sevenruns.plaintexts import span_word
from tests.live_samples import random_event, reason_slowly
from tests.samples import NO_TEXTS, NOTHINGS, Q1, UNIT, Wrong, check_raises, check_refusals
from tests.test_eventtexts import FIRST_ROWS
from tests.test_live import told
from tests.unit_samples import BOTH, HAND_UNITS, LEVEL, MIXED, OPEN, UNITS, fun, random_units, unit, units

GREAT = "9" * 40
SIDE = ("side", "pump", "flow", 0, ((1, 2), Q1))
# Texts that are refused at MIXED, and the field.
WRONG = (
    # No first word.
    ("", 0), (" ", 0), (" sound", 0), ("Sound", 0), ("kinds a b", 0), ("kind\n", 0), ("sound\n", 0), ("sound\nanew", 0), ("day\n", 0), ("day\nday", 0), ("put", 0),
    ("put x", 0), ("define a", 0), ("define mix\ndef bent 0:1\nnum 1\ndone", 0), ("put\nunit a\ndef f 0:1\nnum 0\ndone\nend", 0), ("x", 0), ("0", 0), ("\n", 0),
    # Too short.
    ("kind", 1), ("span", 1), ("case", 1), ("site", 1), ("keep", 1), ("kind mix", 2), ("span mix", 2), ("case out", 2), ("site out", 2), ("keep out", 2),
    ("site out f", 3), ("site out f 0", 4), ("keep out f", 3),
    # Units and functions that are not there.
    ("kind none", 1), ("kind none bent", 1), ("kind Mix bent", 1), ("kind  mix bent", 1), ("kind ", 1), ("kind bent mix", 1), ("span mi bent", 1), ("case mixx bent", 1),
    ("site none f 0 0", 1), ("keep none f 0", 1), ("keep 0 f x", 1), ("kind mix none", 2), ("kind mix f", 2), ("span mix ", 2), ("case out flat", 2), ("site out g 0 0", 2),
    ("keep out F 0", 2), ("kind mix none x", 2), ("kind mix bent\n", 2), ("site mix f x x x", 2), ("kind mix\nbent", 1), ("kind\nmix bent", 0),
    # Numbers that are none.
    ("site out f x 0", 3), ("site out f 00 0", 3), ("site out f -1 0", 3), ("site out f 1/2 0", 3), ("site out f  0", 3), ("site out f x", 3), ("site out f 01", 3),
    ("site out f 0 x", 4), ("site out f 0 00", 4), ("site out f 0 ", 4), ("site out f 0 -0", 4), ("site out f 0 0\n", 4), ("keep out f x", 3), ("keep out f 03", 3),
    ("keep out f ", 3), ("keep out f 3:", 3), ("keep out f 3\n", 3), ("keep out f +3", 3),
    # No such site or keep: told by the last number.
    ("site out f 9 0", 4), ("site out f 2 0", 4), ("site out f 0 3", 4), ("site out f " + GREAT + " 0", 4), ("site mix bent 0 0", 4), ("keep out f 0", 3), ("keep out f 7", 3),
    ("keep mix same 2", 3), ("keep mix bent " + GREAT, 3), ("site out f 9 0 0", 4), ("keep out f 0 0", 3), ("site out f 9", 4),
    # One too many.
    ("sound ", 1), ("sound yes", 1), ("anew ", 1), ("anew mix", 1), ("kind mix bent ", 3), ("kind mix bent flat", 3), ("span mix bent 0", 3), ("case mix bent  ", 3),
    ("site out f 0 0 ", 5), ("site out f 0 0 0", 5), ("keep out f 3 ", 4), ("keep out f 3 4", 4),
)


class Desks(unittest.TestCase):
    def answers(self, live, *pairs):
        for text, answer in pairs:
            with self.subTest(text=text):
                self.assertEqual(desk_line(live=live, text=text), answer)

    def refused(self, live, text, field):
        check_raises(self, InvalidText, {"line": 0, "field": field}, desk_line, live, text)

    def test_example(self):
        live = LiveUnits(BOTH)
        self.assertEqual((desk_line(live, "kind pool level"), desk_line(live, "drop pump"), desk_line(live, "anew")),
                         ("first 0 1 product 2 0 in 0 1 in 1", "done", "pool level"))

    def test_asks(self):
        self.answers(LiveUnits(MIXED), ("kind mix bent", "bent 2: 1 x0 x0 + 1 x1"), ("kind mix gone", "bare -3/2"),
                     ("kind mix flat", "first 0 1 in 1"), ("span mix bent", "bent"), ("span mix gone", "-3/2:-3/2"), ("span out f", "-1:1"), ("span mix same", "bent"),
                     ("case mix bent", "bent"), ("case mix gone", "bare"), ("case mix knot", "knotted"), ("case out f", "once"),
                     ("site mix flat 0 0", "always"), ("site mix flat 0 1", "always"), ("site out f 0 0", "always"), ("site out f 1 0", "sometimes"), ("site out f 1 1", "always"),
                     ("keep mix bent 1", "always"), ("keep mix bent 2", "bent"), ("keep mix gone 5", "never"), ("keep out f 4", "sometimes"), ("sound", "no"), ("anew", "-"))

    def test_open_and_missing(self):
        live = LiveUnits(OPEN)
        self.answers(live, ("kind a f", "open"), ("span a f", "open"), ("case a f", "open"), ("kind b h", "open"), ("span b j", "open"), ("case b i", "open"),
                     ("span a free", "bent"), ("case a free", "bent"), ("keep a f 1", "open"), ("keep a f 2", "open"), ("site a f 0 0", "always"), ("site b j 2 0", "open"), ("sound", "no"))
        # What is missing is not there, nor are the places handed to it.
        for text, field in (("kind no f", 1), ("kind b no", 2), ("site b h 0 0", 4), ("site b i 0 0", 4)):
            self.refused(live, text, field)
        self.answers(LiveUnits((LEVEL,)), ("kind tank level", "open"), ("keep tank level 2", "sometimes"), ("keep tank level 3", "open"), ("sound", "no"))

    def test_names_that_are_words(self):
        rows = units(unit("day", fun("kind", 1, ("add", 0, 0)), fun("sound", 1, ("add", 0, 0))), unit("site", fun("keep", 1, ("call", "day", "kind", (0,)), keeps=((1, UNIT),))))
        live = LiveUnits(rows)
        self.answers(live, ("kind day kind", "first 0 2 in 0"), ("kind day sound", "first 0 2 in 0"), ("keep site keep 1", "sometimes"), ("site site keep 0 0", "always"),
                     ("sound", "no"), ("remove day sound", "done"), ("drop day", "done"), ("anew", "site keep"))
        self.assertEqual(live.log(), (("remove", "day", "sound"), ("drop", "day")))

    def test_sound(self):
        self.answers(LiveUnits(()), ("sound", "yes"), ("anew", "-"))
        self.answers(LiveUnits(BOTH), ("sound", "yes"))
        self.answers(LiveUnits(UNITS), ("sound", "no"))
        live = LiveUnits(BOTH)
        self.answers(live, ("side pump flow 0 1/2:1", "done"), ("sound", "no"), ("side pump flow 0 0:2", "done"), ("sound", "yes"), ("drop pump", "done"), ("sound", "no"))

    def test_events(self):
        live = LiveUnits(BOTH)
        self.answers(live, ("day", "done"), ("side pump flow 0 1/2:1", "done"), ("anew", "-"), ("drop pump", "done"), ("anew", "pool level"), ("span pool level", "open"))
        self.assertEqual(live.log(), (("day",), SIDE, ("drop", "pump")))
        live.define("pool", ("other", (UNIT,), (("add", 0, 0),), ()))
        self.answers(live, ("anew", "pool other"), ("remove pool level", "done"), ("anew", "-"), ("drop pool", "done"), ("anew", "-"), ("sound", "yes"))
        self.assertEqual(live.units_now(), ())

    def test_several_anew(self):
        live = LiveUnits(BOTH)
        live.define("pump", ("flow", (UNIT, UNIT), (("add", 0, 1),), ()))
        self.answers(live, ("anew", "pool level; pump flow"))
        live.put(MIXED[0])
        self.answers(live, ("anew", "mix bent; mix flat; mix gone; mix knot; mix same"))

    def test_events_that_can_not_be_done(self):
        live = LiveUnits(BOTH)
        before = told(live)
        for text, event, reason in (("drop none", ("drop", "none"), "unit"), ("remove pump none", ("remove", "pump", "none"), "function"), ("remove pump flow", ("remove", "pump", "flow"), "last"),
                                    ("side none flow 0 0:1", ("side", "none", "flow", 0, UNIT), "unit"), ("side pump level 0 0:1", ("side", "pump", "level", 0, UNIT), "function"),
                                    ("side pump flow 2 0:1", ("side", "pump", "flow", 2, UNIT), "side")):
            check_raises(self, InvalidEvent, {"event": event, "reason": reason}, desk_line, live, text)
        self.assertEqual(told(live), before)

    def test_wrong_events(self):
        live = LiveUnits(BOTH)
        for row, field in FIRST_ROWS:
            word = row.split(" ")[0]
            self.refused(live, row, field if word in ("drop", "remove", "side", "day") else 0)
        for text, field in (("drop pump\n", 1), ("drop\npump", 0), ("day\nday", 0), ("day\n", 0), ("remove pump flow\nday", 2), ("side pump flow 0 0:1\n", 4), ("drop pump\nday", 1)):
            self.refused(live, text, field)
        self.assertEqual(told(live), told(LiveUnits(BOTH)))

    def test_wrong_texts(self):
        live = LiveUnits(MIXED)
        for text, field in WRONG:
            self.refused(live, text, field)
        self.assertEqual(told(live), told(LiveUnits(MIXED)))

    def test_as_the_answers(self):
        rng = Random(921)
        for rows in [*HAND_UNITS] + [random_units(rng) for _ in range(40)]:
            live = LiveUnits(rows)
            self.check_answers(live)
            event = random_event(rng, rows)
            if event[0] in ("drop", "remove", "side", "day") and reason_slowly(rows, event) is None:
                self.assertEqual(desk_line(live, event_text(event)), "done")
                self.assertEqual(live.log(), (event,))
                self.check_answers(live)

    def check_answers(self, live):
        before = told(live)
        for name, functions in live.units_now():
            for own, box, lines, _ in functions:
                kind = live.kind_now(name, own)
                self.assertEqual(desk_line(live, f"kind {name} {own}"), "open" if kind is None else kind_line(kind))
                self.assertEqual(desk_line(live, f"case {name} {own}"), "open" if kind is None else case_by(kind))
                span = "open" if kind is None else "bent" if kind[0] == "bent" else span_word(live.span_now(name, own))
                self.assertEqual(desk_line(live, f"span {name} {own}"), span)
                self.check_words(live, name, own, lines, len(box) + len(lines))
        self.assertEqual(desk_line(live, "sound"), "yes" if live.sound_now() else "no")
        self.assertEqual(desk_line(live, "anew"), "; ".join(f"{name} {own}" for name, own in live.anew()) or "-")
        self.assertEqual(told(live), before)

    def check_words(self, live, name, own, lines, places):
        """Each site and keep that could be there has its word, or is refused by its last number."""
        asks = {f"site {name} {own} {k} {number}": 4 for k in range(len(lines) + 1) for number in range(4)}
        asks.update({f"keep {name} {own} {place}": 3 for place in range(places + 1)})
        words = {" ".join(map(str, ("site", *row[:-1]))): row[-1] for row in live.sites_now()}
        words.update({" ".join(map(str, ("keep", *row[:-1]))): row[-1] for row in live.keeps_now()})
        for text, field in asks.items():
            if text in words:
                self.assertEqual(desk_line(live, text), words[text])
            else:
                self.refused(live, text, field)

    def test_refused(self):
        wrong = NOTHINGS + (BOTH, LiveAsks(BOTH), Wrong(), 1)
        live = LiveUnits(BOTH)
        check_refusals(self, desk_line, {"live": live, "text": "day"}, {"live": wrong, "text": NO_TEXTS + (("day",), Wrong())})
        check_refusals(self, desk_line, {"live": live, "text": "nothing"}, {"live": wrong})
        self.assertEqual(live.log(), ())
