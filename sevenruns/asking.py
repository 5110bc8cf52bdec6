"""Refusals: a parameter that is not as stated is told by its name."""

from sevenruns.errors import NotUsable
from sevenruns.programs import is_plain
from sevenruns.things import is_box, is_input, is_point, is_quotient


def ask(right, name):
    """Refuses the parameter of this name unless it is right."""
    if not right:
        raise NotUsable(name, -1)


def ask_quotient(quotient):
    """Refuses quotient unless it is one."""
    ask(is_quotient(quotient), "quotient")


def ask_input(size, which):
    """Refuses which unless it is an input below size."""
    ask(is_input(size, which), "which")


def ask_point(size, point):
    """Refuses point unless it has one quotient for each input."""
    ask(is_point(size, point), "point")


def ask_box(size, box):
    """Refuses box unless it has one side for each input."""
    ask(is_box(size, box), "box")


def ask_text(text):
    """Refuses text unless it is a string."""
    ask(isinstance(text, str), "text")


def ask_plain(program):
    """Refuses a program that has a mix."""
    ask(is_plain(program), "program")
