import unittest

from sevenruns import errors

FAMILIES = ("PaperError", "FormError", "UnitError", "LiveError", "TextError")
ERRORS = {
    "InvalidPaper": ("PaperError", ("word", "at")),
    "NotUsable": ("FormError", ("word", "at")),
    "Bent": ("FormError", ("which",)),
    "Knotted": ("FormError", ("lot",)),
    "NotExact": ("FormError", ("word", "line", "which")),
    "Missing": ("UnitError", ("unit", "function")),
    "Ringed": ("UnitError", ("unit", "function")),
    "Misfit": ("UnitError", ("unit", "function", "line")),
    "Trapped": ("UnitError", ("row",)),
    "Broken": ("UnitError", ("place",)),
    "InvalidEvent": ("LiveError", ("event", "reason")),
    "NothingToUndo": ("LiveError", ("steps",)),
    "InvalidText": ("TextError", ("line", "field")),
}


class Errors(unittest.TestCase):
    def test_base_and_families(self):
        self.assertEqual(errors.LossError.__bases__, (ValueError,))
        for name in FAMILIES:
            self.assertEqual(getattr(errors, name).__bases__, (errors.LossError,))

    def test_each_error_is_derived_directly_from_its_family(self):
        for name, (family, _) in ERRORS.items():
            self.assertEqual(getattr(errors, name).__bases__, (getattr(errors, family),), name)

    def test_nothing_else_is_defined(self):
        own = [name for name, thing in vars(errors).items() if isinstance(thing, type)]
        self.assertEqual(sorted(own), sorted(["LossError", *FAMILIES, *ERRORS]))

    def test_fields_are_kept_the_very_objects(self):
        for name, (_, fields) in ERRORS.items():
            given = [[name, field] for field in fields]
            for error in (getattr(errors, name)(*given), getattr(errors, name)(**dict(zip(fields, given)))):
                self.assertEqual(tuple(vars(error)), fields)
                for field, value in zip(fields, given):
                    self.assertIs(getattr(error, field), value)

    def test_fields_may_be_any_values(self):
        for value in (None, True, (), [], "", -1, object()):
            self.assertIs(errors.Bent(value).which, value)
            self.assertIs(errors.InvalidText(value, 0).line, value)

    def test_just_the_fields_are_asked(self):
        for name, (_, fields) in ERRORS.items():
            for many in (len(fields) - 1, len(fields) + 1):
                with self.assertRaises(TypeError):
                    getattr(errors, name)(*range(many))

    def test_they_can_be_raised_and_caught_as_value_errors(self):
        for name, (_, fields) in ERRORS.items():
            with self.assertRaises(ValueError):
                raise getattr(errors, name)(*fields)
