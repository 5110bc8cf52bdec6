import unittest
from random import Random

from sevenruns.edits import kinds_after, made_anew
from sevenruns.unitkinds import kinds_of
from tests.samples import NOTHINGS, Q0, Q2, UNIT, check_refusals
from tests.unit_samples import BOTH, HAND_UNITS, LEVEL, MIXED, OPEN, POOL, PUMP, UNITS, fun, random_units, tables, unit, units

BASE = units(unit("a", fun("f", 2, ("call", "b", "g", (0, 1)), ("add", 2, 0))), unit("b", fun("g", 2, ("call", "c", "h", (0,)), ("mul", 2, 1))),
             unit("c", fun("h", 1, ("add", 0, 0)), fun("k", 1, ("call", "no", "no", (0,)))))
F, G, H, K = ("a", "f"), ("b", "g"), ("c", "h"), ("c", "k")


def with_function(rows, name, function):
    """The units with this function in the place of the one of its name, or beside the others; a new unit if need be."""
    table = {own: list(functions) for own, functions in rows}
    table[name] = [entry for entry in table.get(name, []) if entry[0] != function[0]] + [function]
    return tuple((own, tuple(sorted(table[own]))) for own in sorted(table))


def anew_slowly(rows, other):
    """What is made anew, by the words of [72]."""
    old, new = tables(rows), tables(other)
    before = {row[:2]: row[2] for row in kinds_of(rows)}
    after = {row[:2]: row[2] for row in kinds_of(other)}
    found = []
    for pair in sorted(new):
        own = new[pair]
        calls = [line[1:3] for line in own[2] if line[0] == "call"]
        if pair not in old or old[pair][2] != own[2] or len(old[pair][1]) != len(own[1]):
            found.append(pair)
        elif any((callee in old) != (callee in new) for callee in calls) or any(
                callee in old and callee in new and before[callee] != after[callee] for callee in calls):
            found.append(pair)
    return tuple(found)


def random_edit(rng, rows):
    """Units near to these, a function changed, added or taken out, or just its sides or keeps."""
    pairs = sorted(tables(rows))
    pair = rng.choice(pairs)
    name, box, lines, keeps = tables(rows)[pair]
    kind = rng.choice(("lines", "sides", "keeps", "out", "unit", "new", "wide"))
    if kind == "lines":
        return with_function(rows, pair[0], (name, box, lines + (("add", 0, len(box)),), keeps))
    if kind == "sides":
        return with_function(rows, pair[0], (name, tuple(((-9, 1), (k, 1)) for k in range(len(box))), lines, keeps))
    if kind == "keeps":
        return with_function(rows, pair[0], (name, box, lines, ((0, UNIT),)))
    if kind == "new":
        return with_function(rows, rng.choice("abcz"), fun("zero", 1, ("add", 0, 0)))
    if kind == "unit":
        return tuple(row for row in rows if row[0] != pair[0])
    if kind == "wide" and not lines[0][0] == "call":
        return with_function(rows, pair[0], (name, box, (("num", Q2),) + tuple(
            line if line[0] == "num" else line[:-1] + ((0,) * len(line[3]),) if line[0] == "call" else (line[0], 0, 0) for line in lines[1:]), keeps))
    return tuple((own, tuple(entry for entry in functions if (own, entry[0]) != pair)) for own, functions in rows
                 if any((own, entry[0]) != pair for entry in functions))


class Edits(unittest.TestCase):
    def check(self, rows, other, anew):
        self.assertEqual(made_anew(units=rows, other=other), anew)
        self.assertEqual(kinds_after(units=rows, kinds=kinds_of(rows), other=other), kinds_of(other))

    def test_nothing_changed(self):
        for rows in HAND_UNITS + (BASE,):
            self.check(rows, rows, ())

    def test_from_nothing_and_to_nothing(self):
        self.check((), BASE, (F, G, H, K))
        self.check(BASE, (), ())
        self.check(OPEN, MIXED, tuple(sorted(tables(MIXED))))

    def test_lines_alone(self):
        # Other lines of the same kind: the function alone. Of another kind: its callers too, up to where the kind is the same.
        self.check(BASE, with_function(BASE, "c", fun("h", 1, ("num", Q2), ("mul", 0, 1))), (H,))
        self.check(BASE, with_function(BASE, "c", fun("h", 1, ("add", 0, 0), ("add", 1, 0))), (F, G, H))
        self.check(BASE, with_function(BASE, "b", fun("g", 2, ("call", "c", "h", (1,)), ("mul", 2, 0))), (G,))
        self.check(BASE, with_function(BASE, "b", fun("g", 2, ("add", 0, 0), ("mul", 2, 1))), (G,))

    def test_a_callee_whose_callee_alone_changed(self):
        # h has another kind, g made anew has the one that it had, so f stays.
        rows = units(unit("a", fun("f", 1, ("call", "a", "g", (0,))), fun("g", 1, ("call", "a", "h", (0,)), ("sub", 1, 1)), fun("h", 1, ("add", 0, 0))))
        self.check(rows, with_function(rows, "a", fun("h", 1, ("mul", 0, 0))), (("a", "g"), ("a", "h")))

    def test_sides_and_keeps_alone(self):
        self.check(BASE, with_function(BASE, "b", fun("g", 2, ("call", "c", "h", (0,)), ("mul", 2, 1), side=((0, 1), (7, 1)))), ())
        self.check(BASE, with_function(BASE, "b", fun("g", 2, ("call", "c", "h", (0,)), ("mul", 2, 1), keeps=((0, UNIT),))), ())

    def test_the_number_of_inputs_alone(self):
        rows = units(unit("a", fun("f", 2, ("add", 0, 1)), fun("g", 1, ("num", Q0))))
        self.check(rows, with_function(rows, "a", fun("g", 2, ("num", Q0))), (("a", "g"),))

    def test_come_and_gone(self):
        # k calls what comes: it is open before and has a kind behind; none calls k.
        self.check(BASE, with_function(BASE, "no", fun("no", 1, ("add", 0, 0))), (K, ("no", "no")))
        self.check(with_function(BASE, "no", fun("no", 1, ("add", 0, 0))), BASE, (K,))
        # What comes is open itself: its caller, of no kind before and behind, is made anew all the same.
        self.check(BASE, with_function(BASE, "no", fun("no", 1, ("call", "oh", "no", (0,)))), (K, ("no", "no")))
        # h goes: g is open then, and so is f.
        self.check(BASE, with_function(BASE[:2], "c", fun("k", 1, ("call", "no", "no", (0,)))), (F, G))
        self.check(BOTH, (POOL,), (("pool", "level"),))
        self.check((POOL,), BOTH, (("pool", "level"), ("pump", "flow")))
        self.check(BOTH, (PUMP,), ())
        self.check(UNITS, (LEVEL,), (("tank", "level"),))

    def test_open_stays_open(self):
        # g calls h over none that is there; h is missing before and behind.
        rows = units(unit("a", fun("f", 1, ("call", "a", "g", (0,))), fun("g", 1, ("call", "no", "h", (0,)))))
        self.check(rows, with_function(rows, "a", fun("new", 1, ("num", Q0))), (("a", "new"),))
        # It is open for another reason then: made anew as its lines are others, its caller not.
        self.check(rows, with_function(rows, "a", fun("g", 1, ("call", "no", "other", (0,)))), (("a", "g"),))

    def test_as_slowly(self):
        rng = Random(721)
        for _ in range(300):
            rows = random_units(rng, missing=0.25)
            other = random_edit(rng, rows) if rng.random() < 0.8 else random_units(rng)
            self.check(rows, other, anew_slowly(rows, other))

    def test_what_is_left_out_has_its_kind_of_before(self):
        rng = Random(722)
        for _ in range(100):
            rows = random_units(rng, missing=0.25)
            other = random_edit(rng, rows)
            before, after = ({row[:2]: row[2] for row in kinds_of(entry)} for entry in (rows, other))
            for pair in after:
                if pair not in made_anew(rows, other):
                    self.assertEqual(after[pair], before[pair])

    def test_refused(self):
        wrong = {"other": NOTHINGS[:2] + (1, "x", [], [LEVEL], (None,), LEVEL, BOTH[::-1], (LEVEL, LEVEL), (("tank", ()),))}
        check_refusals(self, made_anew, {"units": UNITS, "other": UNITS}, wrong)
        check_refusals(self, kinds_after, {"units": UNITS, "kinds": kinds_of(UNITS), "other": UNITS}, wrong)
