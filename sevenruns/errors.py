"""The errors of the package: one base class, five families, and the errors in them."""


class LossError(ValueError):
    """The base class of all errors of the package."""


class PaperError(LossError):
    """What a paper states does not hold."""


class FormError(LossError):
    """A formula is not of the sort that is asked for."""


class UnitError(LossError):
    """Units do not fit together, or a run in them stops."""


class LiveError(LossError):
    """Something cannot be done to living units."""


class TextError(LossError):
    """A text cannot be read."""


class InvalidPaper(PaperError):
    """A checker refuses a paper: for which reason, and where."""

    def __init__(self, word, at):
        self.word = word
        self.at = at


class NotUsable(FormError):
    """A parameter is not as stated: its name, and which entry of it, or -1."""

    def __init__(self, word, at):
        self.word = word
        self.at = at


class Bent(FormError):
    """A form is not of first degree: the least input that a bundle has twice."""

    def __init__(self, which):
        self.which = which


class Knotted(FormError):
    """A kind has a knot: the lot of the first one."""

    def __init__(self, lot):
        self.lot = lot


class NotExact(FormError):
    """A program is not exact: the fault of its first line that has one."""

    def __init__(self, word, line, which):
        self.word = word
        self.line = line
        self.which = which


class Missing(UnitError):
    """A function that is called is not there."""

    def __init__(self, unit, function):
        self.unit = unit
        self.function = function


class Ringed(UnitError):
    """A function calls itself, over others or not."""

    def __init__(self, unit, function):
        self.unit = unit
        self.function = function


class Misfit(UnitError):
    """A call hands another number of places than the function has inputs."""

    def __init__(self, unit, function, line):
        self.unit = unit
        self.function = function
        self.line = line


class Trapped(UnitError):
    """A row of a code does not fit its width."""

    def __init__(self, row):
        self.row = row


class Broken(UnitError):
    """A keep does not hold the value of its place."""

    def __init__(self, place):
        self.place = place


class InvalidEvent(LiveError):
    """An event cannot be done: the event, and the reason."""

    def __init__(self, event, reason):
        self.event = event
        self.reason = reason


class NothingToUndo(LiveError):
    """A log has fewer events than are to be undone."""

    def __init__(self, steps):
        self.steps = steps


class InvalidText(TextError):
    """A text is refused: in which row, and at which field."""

    def __init__(self, line, field):
        self.line = line
        self.field = field
