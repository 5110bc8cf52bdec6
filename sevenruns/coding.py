"""Codes made from kinds.

Each tree becomes a row of integers and a bottom by which its value is the row's divided.
No two sons of a node have an input in common, so what a row can be is told by its reads'."""

from math import lcm

from sevenruns.asking import ask
from sevenruns.kindthings import ask_first_kind, least_size
from sevenruns.reckoning import divided
from sevenruns.things import is_box
from sevenruns.trees import MOST_INPUTS
from sevenruns.widths import span_width


def code_of(kind, box):
    """A code with the kind's value, each width the least with which its row fits on the box."""
    ask(isinstance(box, tuple) and is_whole_box(len(box), box), "box")
    ask(max(1, least_size(kind)) <= len(box) <= MOST_INPUTS, "box")
    ask_first_kind(kind)
    return made_code(kind, box)


def is_whole_box(size, thing):
    """True if thing is a box of this size, all its ends whole."""
    return is_box(size, thing) and all([near[1] == 1 and far[1] == 1 for near, far in thing])


def made_code(kind, box):
    """As code_of, for what is right."""
    coder = Coder(box)
    if kind[0] == "bare":
        top, bottom = kind[1]
        coder.number(top)
        return (len(box), bottom, tuple(coder.rows))
    _, base, scale, tree = kind
    row, own = coder.tree_row(tree)
    top, bottom = divided(scale, (own, 1))
    row, bottom = coder.shifted(coder.scaled(row, top), bottom, base)
    return (len(box), bottom, tuple(coder.rows))


def span_of(integers):
    """The pair of the least and the greatest of the integers."""
    return (min(integers), max(integers))


class Coder:
    """Rows that are made one after the other, and the least and greatest value of each on a box of whole ends."""

    def __init__(self, box):
        self.box = box
        self.rows = []
        self.spans = []

    def new_row(self, word, one, other, span):
        """The number of this row, which is added; its values go from the one end of the span to the other."""
        self.rows.append((word, one, other, span_width(span)))
        self.spans.append(span)
        return len(self.rows) - 1

    def number(self, integer):
        """The row of the integer."""
        return self.new_row("num", integer, 0, (integer, integer))

    def sum_row(self, one, other):
        """The row of the sum of two rows without an input in common."""
        low, high = self.spans[one]
        near, far = self.spans[other]
        return self.new_row("add", one, other, (low + near, high + far))

    def product_row(self, one, other):
        """The row of the product of two rows without an input in common."""
        ends = [near * far for near in self.spans[one] for far in self.spans[other]]
        return self.new_row("mul", one, other, span_of(ends))

    def scaled(self, row, integer):
        """The row of the integer times a row."""
        return row if integer == 1 else self.product_row(self.number(integer), row)

    def shifted(self, row, bottom, quotient):
        """The row and the bottom of a row divided by its bottom, with the quotient added."""
        if quotient[0] == 0:
            return row, bottom
        joint = lcm(bottom, quotient[1])
        row = self.scaled(row, joint // bottom)
        return self.sum_row(row, self.number(quotient[0] * (joint // quotient[1]))), joint

    def tree_row(self, tree):
        """The row and the bottom of a tree."""
        if not isinstance(tree, tuple):
            near, far = self.box[tree]
            return self.new_row("in", tree, 0, (near[0], far[0])), 1
        if tree[0] == "sum":
            return self.sum_rows(tree[1])
        return self.product_rows(tree[1]) if tree[0] == "product" else self.knot_rows(tree)

    def sum_rows(self, rows):
        """The row and the bottom of a sum with these rows."""
        sons = [self.tree_row(son) for _, son in rows]
        joint = 1
        for _, bottom in sons:
            joint = lcm(joint, bottom)
        found = None
        for (row, bottom), (whole, _) in zip(sons, rows):
            part = self.scaled(row, whole * (joint // bottom))
            found = part if found is None else self.sum_row(found, part)
        return found, joint

    def product_rows(self, rows):
        """The row and the bottom of a product with these rows."""
        found, joint = None, 1
        for shift, son in rows:
            row, bottom = self.tree_row(son)
            row, bottom = self.shifted(row, bottom, shift)
            found = row if found is None else self.product_row(found, row)
            joint *= bottom
        return found, joint

    def knot_rows(self, knot):
        """The row and the bottom of a knot."""
        _, sons, terms = knot
        places = [self.tree_row(son) for son in sons]
        bottoms = [product_of([places[place][1] for place in lot]) for lot, _ in terms]
        joint = 1
        for bottom in bottoms:
            joint = lcm(joint, bottom)
        # Terms have sons in common, so their sums are told by the values at all ends of the sons.
        corners = choices([self.spans[row] for row, _ in places])
        sums = [0 for _ in corners]
        found = None
        for (lot, whole), bottom in zip(terms, bottoms):
            number = whole * (joint // bottom)
            part = self.scaled(self.lot_row([places[place][0] for place in lot]), number)
            sums = [own + number * product_of([corner[place] for place in lot]) for own, corner in zip(sums, corners)]
            found = part if found is None else self.new_row("add", found, part, span_of(sums))
        return found, joint

    def lot_row(self, rows):
        """The row of the product of some rows without an input in common."""
        found = rows[0]
        for row in rows[1:]:
            found = self.product_row(found, row)
        return found


def product_of(integers):
    """The product of the integers."""
    found = 1
    for integer in integers:
        found *= integer
    return found


def choices(spans):
    """The list of the tuples of one end of each span."""
    found = [()]
    for span in spans:
        found = [chosen + (end,) for chosen in found for end in span]
    return found
