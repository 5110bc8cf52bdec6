"""Kinds on boxes, as objects."""

from sevenruns.asking import ask
from sevenruns.boxes import side_put
from sevenruns.budgets import ask_budget, budget_far
from sevenruns.judging import is_check, word_of
from sevenruns.kindends import counts_by, ends_by
from sevenruns.kindspans import span_by
from sevenruns.kindthings import ask_first_kind, ask_kind_box, is_kind


class Reach:
    """A kind on a box."""

    def __init__(self, kind, box):
        ask(is_kind(kind), "kind")
        ask_kind_box(kind, box)
        ask_first_kind(kind)
        self._kind = kind
        self._box = box

    def span(self):
        """The span of the kind's values."""
        return span_by(self._kind, self._box)

    def ends(self):
        """A corner with the least value, and one with the greatest."""
        return ends_by(self._kind, self._box)

    def counts(self):
        """At how many corners the kind has its least value, and at how many its greatest."""
        return counts_by(self._kind, self._box)

    def judged(self, check):
        """Whether the check holds of the values: always, never or sometimes."""
        ask(is_check(check), "check")
        return word_of(check, self.span())

    def budget(self, which, span):
        """How far up the far end of the side of which may go."""
        return budget_far(self._kind, self._box, which, span)

    def with_side(self, which, span):
        """A new Reach with the same kind, and span as the side of which."""
        ask_budget(self._kind, self._box, which, span)
        return Reach(self._kind, side_put(self._box, which, span))

    def __eq__(self, other):
        return isinstance(other, Reach) and self._kind == other._kind and self._box == other._box
