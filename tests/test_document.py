"""Each example of DOC.md runs as it stands there; document_examples.txt holds them in their sequence."""

import importlib
import unittest
from pathlib import Path

from sevenruns import errors
from tests.test_interface import CALLS, CLASSES, STARRED

EXAMPLES = Path(__file__).resolve().parent / "document_examples.txt"


def all_names():
    """All names of the interface, since some examples leave out imports."""
    scope = {name: value for name, value in vars(errors).items() if isinstance(value, type)}
    for table in (CALLS, STARRED, CLASSES):
        for module, names in table.items():
            scope.update({name: getattr(importlib.import_module("sevenruns." + module), name) for name in names})
    return scope


def examples():
    """The pairs of what is typed and what is printed, "" if that is nothing."""
    found = []
    for row in EXAMPLES.read_text().split("\n"):
        if row.startswith("    >>> "):
            found.append([row[8:], ""])
        elif row.startswith("    "):
            found[-1][1] += row[4:]
    return found


def is_statement(text):
    """True if the text is no expression."""
    try:
        compile(text, "example", "eval")
    except SyntaxError:
        return True
    return False


def error_in(printed, scope):
    """The error that is printed, with or without "raises", or as a name and its fields behind a colon; None if none is."""
    made = printed.removeprefix("raises ").replace(": (", "(", 1)
    named = scope.get(made.partition("(")[0])
    return eval(made, scope) if isinstance(named, type) and issubclass(named, errors.LossError) else None


class Document(unittest.TestCase):
    def test_examples(self):
        scope, found = all_names(), examples()
        self.assertEqual(len(found), 139)
        for text, printed in found:
            with self.subTest(text=text):
                self.check(text, printed, scope)

    def check(self, text, printed, scope):
        error = error_in(printed, scope)
        if error is not None:
            with self.assertRaises(error.__class__) as caught:
                eval(text, scope)
            self.assertIs(caught.exception.__class__, error.__class__)
            self.assertEqual(vars(caught.exception), vars(error))
        elif is_statement(text):
            self.assertEqual(printed, "")
            exec(text, scope)
        elif printed == "":
            self.assertIsNone(eval(text, scope))
        else:
            self.assertEqual(repr(eval(text, scope)), repr(eval(printed, scope)))
