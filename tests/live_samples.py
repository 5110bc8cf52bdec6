"""Events written by hand and others, and slow ways to tell what they do to units."""

from tests.kind_samples import HALF
from tests.samples import NOTHINGS, Q0, Q1, UNIT, random_box
from tests.unit_samples import BOTH, POOL, PUMP, fun, random_function, tables, unit

# One of each word, all of which can be done to BOTH, and what the units are behind each.
FLOW = fun("flow", 2, ("add", 0, 1))
LEAK = fun("leak", 1, ("call", "no", "no", (0, 0)))
HALF_SIDE = (HALF, Q1)
DONE = (
    (("put", unit("pump", FLOW, LEAK)), (POOL, unit("pump", FLOW, LEAK))),
    (("put", unit("a", LEAK)), (unit("a", LEAK), POOL, PUMP)),
    (("put", unit("puma", LEAK)), (POOL, unit("puma", LEAK), PUMP)),
    (("put", unit("z", LEAK)), (POOL, PUMP, unit("z", LEAK))),
    (("put", POOL), BOTH),
    (("drop", "pump"), (POOL,)),
    (("drop", "pool"), (PUMP,)),
    (("define", "pump", FLOW), (POOL, unit("pump", FLOW))),
    (("define", "pump", LEAK), (POOL, ("pump", PUMP[1] + (LEAK,)))),
    (("define", "pump", ("a", *LEAK[1:])), (POOL, ("pump", (("a", *LEAK[1:]),) + PUMP[1]))),
    (("define", "pump", PUMP[1][0]), BOTH),
    (("side", "pump", "flow", 0, HALF_SIDE), (POOL, ("pump", (("flow", (HALF_SIDE, UNIT), (("mul", 0, 1),), ()),)))),
    (("side", "pump", "flow", 1, UNIT), BOTH),
    (("day",), BOTH),
)
EVENTS = tuple(event for event, _ in DONE) + (("remove", "pump", "flow"), ("remove", "zzzzzzzz", "a"), ("drop", "none"), ("side", "none", "none", 10 ** 12, (Q0, Q0)))
NO_EVENTS = NOTHINGS + (
    1, (), ("put",), ("day", 1), ("day", ()), "day", ["day"], ("Day",), ("night",), (("day",),), (1,), (True, "pump"), ("take_out", "pump", "flow"),
    ("put", PUMP, PUMP), ("put", None), ("put", "pump"), ("put", ("pump", ())), ("put", list(PUMP)), ("put", (PUMP,)), ("put", ("Pump", PUMP[1])), ["put", PUMP],
    ("drop",), ("drop", "Pump"), ("drop", ""), ("drop", "abcdefghi"), ("drop", None), ("drop", ("pump",)), ("drop", PUMP), ("drop", "pump", "flow"), ("drop", 1),
    ("define", "pump"), ("define", "Pump", FLOW), ("define", None, FLOW), ("define", "pump", None), ("define", "pump", FLOW[:3]), ("define", "pump", PUMP),
    ("define", "pump", ("flow", (UNIT,), (("add", 0, 1),), ())), ("define", "pump", FLOW, FLOW), ("define", FLOW, "pump"), ("define", "pump", list(FLOW)),
    ("remove", "pump"), ("remove", "pump", "Flow"), ("remove", "", "flow"), ("remove", "pump", 0), ("remove", "pump", "flow", 0), ("remove", "pump", FLOW),
    ("side", "pump", "flow", 0), ("side", "pump", "flow", -1, UNIT), ("side", "pump", "flow", True, UNIT), ("side", "pump", "flow", "0", UNIT),
    ("side", "pump", "flow", 0, None), ("side", "pump", "flow", 0, (Q1, Q0)), ("side", "pump", "flow", 0, (Q0, (2, 4))), ("side", "pump", "flow", 0, [Q0, Q1]),
    ("side", "Pump", "flow", 0, UNIT), ("side", "pump", "", 0, UNIT), ("side", "pump", "flow", UNIT, 0), ("side", "pump", "flow", 0, UNIT, UNIT), ("side", 0, "pump", "flow", UNIT),
)


def rows_of(functions):
    """The units of a table of functions by pairs of names."""
    return tuple((name, tuple(functions[pair] for pair in sorted(functions) if pair[0] == name)) for name in sorted({pair[0] for pair in functions}))


def after_slowly(rows, event):
    """The units behind an event that names what is there."""
    functions = tables(rows)
    if event[0] in ("put", "drop"):
        name = event[1][0] if event[0] == "put" else event[1]
        functions = {pair: function for pair, function in functions.items() if pair[0] != name}
        if event[0] == "put":
            functions.update({(name, function[0]): function for function in event[1][1]})
    elif event[0] == "define":
        functions[(event[1], event[2][0])] = event[2]
    elif event[0] == "remove":
        del functions[event[1:3]]
    elif event[0] == "side":
        name, box, lines, keeps = functions[event[1:3]]
        functions[event[1:3]] = (name, box[:event[3]] + (event[4],) + box[event[3] + 1:], lines, keeps)
    return rows_of(functions)


def is_ringed_slowly(rows):
    """True if some function calls itself, over others or not."""
    functions = tables(rows)
    calls = {pair: {line[1:3] for line in function[2] if line[0] == "call"} for pair, function in functions.items()}
    for _ in functions:
        calls = {pair: own | {over for callee in own for over in calls.get(callee, ())} for pair, own in calls.items()}
    return any(pair in own for pair, own in calls.items())


def is_misfit_slowly(rows):
    functions = tables(rows)
    return any(len(line[3]) != len(functions[line[1:3]][1]) for function in functions.values() for line in function[2]
               if line[0] == "call" and line[1:3] in functions)


def reason_slowly(rows, event):
    """The reason for which a right event can not be done, by the words of [86]."""
    functions, names = tables(rows), [row[0] for row in rows]
    if event[0] in ("drop", "define", "remove", "side") and event[1] not in names:
        return "unit"
    if event[0] in ("remove", "side") and event[1:3] not in functions:
        return "function"
    if event[0] == "remove" and [pair[0] for pair in functions].count(event[1]) == 1:
        return "last"
    if event[0] == "side" and event[3] >= len(functions[event[1:3]][1]):
        return "side"
    behind = after_slowly(rows, event)
    return "ring" if is_ringed_slowly(behind) else "misfit" if is_misfit_slowly(behind) else None


def random_event(rng, rows):
    """An event, often one that can be done to the units."""
    pairs = sorted(tables(rows)) or [("a", "f")]
    name, own = pair = rng.choice(pairs)
    word = rng.choice(("put", "drop", "define", "define", "define", "remove", "side", "side", "day"))
    if rng.random() < 0.1:
        name, own = rng.choice("abcz"), rng.choice(("f", "g", "zero"))
    if word == "put":
        callees = {other: function for other, function in tables(rows).items() if other[0] < name} if rng.random() < 0.7 else tables(rows)
        return ("put", unit(name, *(random_function(rng, entry, callees, 0.1, 3) for entry in rng.sample(["f", "g", "h", "zero"], rng.randint(1, 3)))))
    if word == "define":
        callees = {other: function for other, function in tables(rows).items() if other < pair} if rng.random() < 0.7 else tables(rows)
        return ("define", name, random_function(rng, rng.choice((own, own, "zero", "zz")), callees, 0.1, 3))
    if word == "side":
        return ("side", name, own, rng.choice((0, 0, 0, 1, 2, 3)), random_box(rng, 1)[0])
    return {"drop": ("drop", name), "remove": ("remove", name, own), "day": ("day",)}[word]
