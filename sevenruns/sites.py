"""Sites and keeps of units judged: whether sides and spans hold what is handed and kept."""

from sevenruns.asking import ask
from sevenruns.judging import judged
from sevenruns.showing import shown
from sevenruns.things import is_input, is_integer
from sevenruns.unitkinds import kind_table, kinds_in
from sevenruns.unitlinks import ask_linked, ask_not_open, callee_of, function_table, is_call_there
from sevenruns.unitthings import function_in, missing_in, row_named


def sites_of(units):
    """The ascending tuple of the rows (unit, function, line, number, word) of all sites."""
    ask_linked(units)
    return site_rows(units, kind_table(units))


def keeps_of(units):
    """The ascending tuple of the rows (unit, function, place, word) of all keeps."""
    ask_linked(units)
    return keep_rows(units, kind_table(units))


def all_sound(units):
    """True if nothing is missing and all sites and keeps are judged always, else False."""
    ask_linked(units)
    return are_sound(units, kind_table(units))


def show_site(units, unit, function, line, number):
    """A point of the function's box at which the callee's side holds the place's value, and one at which not."""
    own = function_in(units, unit, function)
    functions = function_table(units)
    ask(is_input(len(own[2]), line) and is_call_there(own[2][line], functions), "line")
    places = own[2][line][3]
    ask(is_input(len(places), number), "number")
    ask_linked(units)
    return shown_at(units, unit, own, places[number], callee_of(own[2][line], functions)[1][number])


def show_keep(units, unit, function, place):
    """A point of the function's box at which the keep's span holds the place's value, and one at which not."""
    own = function_in(units, unit, function)
    keep = row_named(own[3], place)
    ask(is_integer(place) and keep is not None, "place")
    ask_linked(units)
    return shown_at(units, unit, own, place, keep[1])


def site_rows(units, kinds):
    """As sites_of, kinds being the table of the units."""
    functions = function_table(units)
    found = []
    for pair, function in functions.items():
        places = kinds_in(function, kinds)
        for k, line in enumerate(function[2]):
            if is_call_there(line, functions):
                sides = callee_of(line, functions)[1]
                words = [word_at(places[place], function[1], sides[number]) for number, place in enumerate(line[3])]
                found.extend([(*pair, k, number, words[number]) for number in range(len(words))])
    return tuple(found)


def keep_rows(units, kinds):
    """As keeps_of, kinds being the table of the units."""
    found = []
    for pair, function in function_table(units).items():
        places = kinds_in(function, kinds)
        found.extend([(*pair, place, word_at(places[place], function[1], span)) for place, span in function[3]])
    return tuple(found)


def are_sound(units, kinds):
    """As all_sound, kinds being the table of the units."""
    if missing_in(units):
        return False
    return all([row[-1] == "always" for row in site_rows(units, kinds) + keep_rows(units, kinds)])


def word_at(kind, box, span):
    """How a place of this kind is judged: whether the span holds its value at the points of the box."""
    if kind is None:
        return "open"
    return "bent" if kind[0] == "bent" else judged(kind, box, ("inside", span))


def shown_at(units, unit, own, place, span):
    """As show_site, for the place of the function own in the unit, and the span that is to hold its value."""
    kind = kinds_in(own, kind_table(units))[place]
    if kind is None:
        ask_not_open(units, unit, own[0])
    return shown(kind, own[1], ("inside", span))
