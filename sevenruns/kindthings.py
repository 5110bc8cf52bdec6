"""Kinds: what they are, their inputs, their values."""

from math import gcd

from sevenruns.asking import ask
from sevenruns.clans import ClanSearch
from sevenruns.crosses import pairs_in
from sevenruns.formfacts import ask_first, bent_input, hangs_on
from sevenruns.formruns import value_of
from sevenruns.forms import is_form
from sevenruns.reckoning import NOUGHT, ONE, added, multiplied
from sevenruns.things import has_word, is_box, is_input, is_integer, is_lot, is_pair, is_point, is_quotient
from sevenruns.trees import MOST_INPUTS, places_form, sons_of, tree_lot

KIND_LENGTHS = {"bare": 2, "first": 4, "bent": 2}
NODE_LENGTHS = {"sum": 2, "product": 2, "knot": 3}


def is_kind(thing):
    """True if thing, any value, is a kind, else False."""
    return kind_fault(thing) is None


def lot_of(kind):
    """The lot of the inputs that stand in the kind."""
    if kind[0] == "bare":
        return ()
    return hangs_on(kind[1]) if kind[0] == "bent" else tree_lot(kind[3])


def value_by(kind, point):
    """The kind's value at the point."""
    ask(isinstance(point, tuple) and len(point) >= least_size(kind) and is_point(len(point), point), "point")
    if kind[0] == "bare":
        return kind[1]
    if kind[0] == "bent":
        return value_of(kind[1], point[:kind[1][0]])
    return added(kind[1], multiplied(kind[2], tree_value(kind[3], point)))


def least_size(kind):
    """How many inputs there are if the greatest one in the kind is the last."""
    lot = lot_of(kind)
    return lot[-1] + 1 if lot else 0


def ask_kind_box(kind, box):
    """Refuses box unless it is one with a side for each input in the kind."""
    ask(isinstance(box, tuple) and len(box) >= least_size(kind) and is_box(len(box), box), "box")


def ask_first_kind(kind):
    """Raises Bent for a bent kind."""
    if kind[0] == "bent":
        ask_first(kind[1])


def tree_value(tree, point):
    """The tree's value at the point."""
    if not isinstance(tree, tuple):
        return point[tree]
    if tree[0] == "sum":
        return total([multiplied((whole, 1), tree_value(son, point)) for whole, son in tree[1]])
    if tree[0] == "product":
        return multiple([added(shift, tree_value(son, point)) for shift, son in tree[1]])
    worths = [tree_value(son, point) for son in tree[1]]
    return total([multiplied((whole, 1), multiple([worths[place] for place in lot])) for lot, whole in tree[2]])


def total(quotients):
    """All quotients, added."""
    found = NOUGHT
    for quotient in quotients:
        found = added(found, quotient)
    return found


def multiple(quotients):
    """The product of all quotients."""
    found = ONE
    for quotient in quotients:
        found = multiplied(found, quotient)
    return found


def kind_fault(thing):
    """The first word and number that tell why thing is no kind, or None."""
    if not has_word(thing) or thing[0] not in KIND_LENGTHS or len(thing) != KIND_LENGTHS[thing[0]]:
        return ("shape", -1)
    if thing[0] == "bare":
        return None if is_quotient(thing[1]) else ("number", -1)
    if thing[0] == "bent":
        return None if is_bent_form(thing[1]) else ("form", -1)
    _, base, scale, tree = thing
    if not is_quotient(base):
        return ("base", -1)
    if not is_quotient(scale) or scale == NOUGHT:
        return ("scale", -1)
    return TreeSearch().fault_in(tree)


def is_bent_form(thing):
    """True if thing is a form not of first degree, of the least size that it can have."""
    return is_form(thing) and bent_input(thing) is not None and hangs_on(thing)[-1] == thing[0] - 1


class TreeSearch:
    """A search for what keeps any value from being a tree, in which the trees are counted."""

    def __init__(self):
        self.many = 0

    def fault_in(self, thing):
        """The first word and number that tell why thing is no tree, or None."""
        at = self.many
        self.many += 1
        if is_input(MOST_INPUTS, thing):
            return None
        if not has_word(thing) or thing[0] not in NODE_LENGTHS or len(thing) != NODE_LENGTHS[thing[0]]:
            return ("tree", at)
        if not has_rows(thing):
            return ("rows", at)
        for son in sons_of(thing):
            fault = self.fault_in(son)
            if fault is not None:
                return fault
        word = node_fault(thing)
        return None if word is None else (word, at)


def has_rows(node):
    """True if the rows, or sons and terms, of what begins as a node are right but for the trees in them."""
    if node[0] == "knot":
        return isinstance(node[1], tuple) and len(node[1]) >= 3 and are_terms(len(node[1]), node[2])
    rows = node[1]
    if not isinstance(rows, tuple) or len(rows) < 2 or not all([is_pair(row) for row in rows]):
        return False
    numbers = [row[0] for row in rows]
    return are_wholes(numbers) if node[0] == "sum" else all([is_quotient(number) for number in numbers])


def are_terms(many, thing):
    """True if thing is the terms of a knot of so many sons."""
    if not isinstance(thing, tuple) or not all([is_pair(term) for term in thing]):
        return False
    lots = [term[0] for term in thing]
    if not all([is_lot(many, lot) and lot != () for lot in lots]):
        return False
    return all([lots[k - 1] < lots[k] for k in range(1, len(lots))]) and are_wholes([term[1] for term in thing])


def are_wholes(things):
    """True if the things are integers other than 0, the first above 0, without a common divisor above 1."""
    if not all([is_integer(thing) and thing != 0 for thing in things]):
        return False
    shared = 0
    for thing in things:
        shared = gcd(shared, thing)
    return shared == 1 and things[0] > 0


def node_fault(node):
    """The word for what is wrong with a node whose rows and sons are right, or None."""
    lots = [tree_lot(son) for son in sons_of(node)]
    inputs = [which for lot in lots for which in lot]
    firsts = [lot[0] for lot in lots]
    if len(set(inputs)) < len(inputs) or firsts != sorted(firsts):
        return "order"
    if node[0] == "knot":
        return "clan" if is_loose(places_form(node)) else None
    return "seam" if any([is_seam(node[0], number, son) for number, son in node[1]]) else None


def is_seam(word, number, son):
    """True if the son of a sum or product belongs to the node itself."""
    return isinstance(son, tuple) and son[0] == word and (word == "sum" or number == NOUGHT)


def is_loose(form):
    """True if the form does not hang on all of its inputs or has a clan between."""
    every = hangs_on(form)
    if len(every) < form[0]:
        return True
    search = ClanSearch(form)
    return any([search.least(pair) != every for pair in pairs_in(every)])
