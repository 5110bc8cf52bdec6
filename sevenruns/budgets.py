"""Budgets: how far an end of a side may go before some value of a kind is outside of a span.

As one input goes, a kind of first degree goes along a line at each corner of the other
sides. A line is a pair (slope, number); the greatest value is that of the highest line."""

from math import lcm

from sevenruns.asking import ask, ask_input
from sevenruns.formruns import form_at, step_by
from sevenruns.kindends import corner_values
from sevenruns.kindspans import point_span, product_span, sum_span, tree_span
from sevenruns.kindthings import ask_first_kind, ask_kind_box
from sevenruns.reckoning import NOUGHT, ONE, added, divided, is_less, multiplied, negated, reduced, span_over, taken_off
from sevenruns.spans import scaled_span, span_plus, span_within
from sevenruns.things import is_span
from sevenruns.trees import places_form, sons_of, tree_lot


def budget_far(kind, box, which, span):
    """How far up the far end of the side of which may go from the near end."""
    ask_budget(kind, box, which, span)
    return budget_of(outer_lines(kind, box, which), box[which][0], span)


def budget_near(kind, box, which, span):
    """How far down the near end of the side of which may go from the far end."""
    ask_budget(kind, box, which, span)
    # Going down is going up with the sign of the input changed.
    lines = tuple([(negated(slope), number) for slope, number in row] for row in outer_lines(kind, box, which))
    word, quotient = budget_of(lines, negated(box[which][1]), span)
    return (word, negated(quotient))


def ask_budget(kind, box, which, span):
    """Refuses box, then which, then span, then a bent kind."""
    ask_kind_box(kind, box)
    ask_input(len(box), which)
    ask(is_span(span), "span")
    ask_first_kind(kind)


def budget_of(lines, start, span):
    """The budget of what goes up from start, lines being the lists of the lowest and of the highest lines."""
    lowest, highest = lines
    values = span_over([value_at(line, start) for line in lowest + highest])
    if not span_within(values, span):
        return ("broken", NOUGHT)
    ends = [divided(taken_off(span[1], number), slope) for slope, number in highest if is_less(NOUGHT, slope)]
    ends.extend([divided(taken_off(span[0], number), slope) for slope, number in lowest if is_less(slope, NOUGHT)])
    return ("to", span_over(ends)[0]) if ends else ("free", NOUGHT)


def value_at(line, quotient):
    """The value of the line there."""
    return added(multiplied(line[0], quotient), line[1])


def outer_lines(kind, box, which):
    """The pair of the lists of the lowest and of the highest lines of the kind as the input which goes."""
    if kind[0] == "bare":
        return ([(NOUGHT, kind[1])], [(NOUGHT, kind[1])])
    _, base, scale, tree = kind
    return changed_lines(tree_lines(tree, box, which), [(scale, base)])


def tree_lines(tree, box, which):
    """The pair of the lists of the lowest and of the highest lines of the tree."""
    if tree == which:
        return ([(ONE, NOUGHT)], [(ONE, NOUGHT)])
    if which not in tree_lot(tree):
        low, high = tree_span(tree, box)
        return ([(NOUGHT, low)], [(NOUGHT, high)])
    sons = sons_of(tree)
    place = [which in tree_lot(son) for son in sons].index(True)
    spans = [tree_span(son, box) for son in sons[:place] + sons[place + 1:]]
    return changed_lines(tree_lines(sons[place], box, which), node_changes(tree, place, spans))


def node_changes(node, place, spans):
    """The list of the pairs (scale, base) by which the node's value comes of its son's in this place.

    The other sons have these spans; their ends are enough."""
    if node[0] == "knot":
        form = places_form(node)
        parts = [form_at(form, place, NOUGHT), step_by(form, place)]
        sides = spans[:place] + [point_span(NOUGHT)] + spans[place:]
        bases, scales = [corner_values(part, sides) for part in parts]
        return list(zip(scales, bases))
    own = node[1][place][0]
    others = [number for number, _ in node[1][:place] + node[1][place + 1:]]
    if node[0] == "sum":
        rest = sum_span([scaled_span(span, (whole, 1)) for whole, span in zip(others, spans)])
        return [((own, 1), end) for end in rest]
    rest = product_span([span_plus(span, point_span(shift)) for shift, span in zip(others, spans)])
    return [(end, multiplied(end, own)) for end in rest]


def changed_lines(lines, changes):
    """The pair of the lists of the lowest and of the highest lines behind any of the changes."""
    low, high = [], []
    for scale, base in changes:
        # A scale below nought makes the highest of the lowest.
        below, above = lines[::-1] if is_less(scale, NOUGHT) else lines
        low.extend([changed_line(line, scale, base) for line in below])
        high.extend([changed_line(line, scale, base) for line in above])
    return (lowest_lines(low), highest_lines(high))


def changed_line(line, scale, base):
    """The line times scale, and base added."""
    return (multiplied(line[0], scale), added(multiplied(line[1], scale), base))


def lowest_lines(lines):
    """The lines that are the lowest ones somewhere."""
    turned = [(negated(slope), negated(number)) for slope, number in lines]
    return [(negated(slope), negated(number)) for slope, number in highest_lines(turned)]


def highest_lines(lines):
    """The lines that are the highest ones somewhere, their slopes ascending."""
    bottom = 1
    for slope, number in lines:
        bottom = lcm(bottom, slope[1], number[1])
    found = []
    rows = [(slope[0] * (bottom // slope[1]), number[0] * (bottom // number[1])) for slope, number in lines]
    for line in sorted(rows):
        if found and found[-1][0] == line[0]:
            found.pop()
        while len(found) >= 2 and is_covered(found[-2], found[-1], line):
            found.pop()
        found.append(line)
    return [(reduced(rise, bottom), reduced(base, bottom)) for rise, base in found]


def is_covered(one, middle, other):
    """True if nowhere the middle one of three lines with ascending slopes is higher than both others."""
    return (other[1] - one[1]) * (middle[0] - one[0]) >= (middle[1] - one[1]) * (other[0] - one[0])
