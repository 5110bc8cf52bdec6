"""Kinds put together by their letters.

Each letter has a number, and the kinds become forms whose inputs are the letters. No two
letters have an input in common, so a form of first degree in them is one in the inputs."""

from sevenruns.formmaking import form_multiple, form_sum, number_form, place_form
from sevenruns.kindforms import form_multiples, form_over, form_total, kind_over
from sevenruns.kindmaking import kind_of
from sevenruns.kindthings import lot_of
from sevenruns.letters import are_shared, letters_of
from sevenruns.parts import input_part, part_plus, part_times, planted_kind, product_part, sum_part
from sevenruns.trees import places_form, sons_of, tree_lot


def shared_inputs(kinds):
    """The lot of the inputs that stand in two of the kinds or in a bent one."""
    found = {}
    for kind in kinds:
        for which in lot_of(kind):
            # A bent kind counts twice.
            found[which] = found.get(which, 0) + (2 if kind[0] == "bent" else 1)
    return tuple(which for which in sorted(found) if found[which] > 1)


class Lettering:
    """The letters of some kinds by a lot of shared inputs, and what each of them stands for."""

    def __init__(self, kinds, shared):
        self.common = shared
        lots = sorted({letter for kind in kinds for letter in letters_of(kind, shared)})
        self.size = max(1, len(lots))
        self.numbers = {lots[k]: k for k in range(len(lots))}
        self.parts = {}

    def letter(self, lot, part):
        """The form of the letter with this lot, which stands for the part."""
        number = self.numbers[lot]
        self.parts[number] = part
        return place_form(self.size, number)

    def kind_form(self, kind):
        """The form of one of the kinds in the letters."""
        if kind[0] == "first":
            return form_sum(number_form(self.size, kind[1]), form_multiple(self.tree_form(kind[3]), kind[2]))
        forms = {which: self.letter((which,), input_part(which)) for which in lot_of(kind)}
        return kind_over(kind, self.size, forms)

    def tree_form(self, tree):
        """The form of a tree in the letters."""
        lot = tree_lot(tree)
        if not isinstance(tree, tuple) or not are_shared(lot, self.common):
            return self.letter(lot, input_part(tree))
        if tree[0] == "knot":
            sons = {place: self.tree_form(son) for place, son in enumerate(sons_of(tree))}
            return form_over(places_form(tree), self.size, sons)
        return self.node_form(tree)

    def node_form(self, node):
        """As tree_form, for a sum or product."""
        forms, rest = [], []
        for number, son in node[1]:
            if are_shared(tree_lot(son), self.common):
                forms.append(self.row_form(node[0], number, son))
            elif node[0] == "sum":
                rest.append(part_times(input_part(son), (number, 1)))
            else:
                rest.append(part_plus(input_part(son), number))
        if rest:
            together = sum_part(rest) if node[0] == "sum" else product_part(rest)
            lot = tuple(sorted([which for part in rest for which in tree_lot(part[2])]))
            forms.append(self.letter(lot, together))
        return form_total(self.size, forms) if node[0] == "sum" else form_multiples(self.size, forms)

    def row_form(self, word, number, son):
        """The form of a row, with its whole or shift, of a sum or product."""
        form = self.tree_form(son)
        if word == "sum":
            return form_multiple(form, (number, 1))
        return form_sum(number_form(self.size, number), form)

    def kind_told(self, form):
        """The kind of a form in the letters."""
        found = kind_of(form)
        if found[0] == "bent":
            return kind_of(self.spelled(found[1]))
        return planted_kind(found, self.parts) if found[0] == "first" else found

    def spelled(self, form):
        """The form with the letters multiplied out."""
        lots = {number: lot for lot, number in self.numbers.items()}
        used = sorted({number for bundle, _ in form[1] for number in bundle})
        size = 1 + max([lots[number][-1] for number in used])
        forms = {number: self.letter_form(number, lots[number], size) for number in used}
        return form_over(form, size, forms)

    def letter_form(self, number, lot, size):
        """The form of this size of what the letter stands for."""
        kind = ("first", *self.parts[number])
        return kind_over(kind, size, {which: place_form(size, which) for which in lot})
