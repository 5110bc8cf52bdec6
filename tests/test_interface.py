"""Each name of the interface stands in its file, takes its arguments by position and by name, and changes none of them."""

import ast
import importlib
import inspect
import unittest
from copy import deepcopy
from pathlib import Path

from sevenruns.live import LiveUnits
from sevenruns.packs import pack_of
from sevenruns.unitcode import unit_code
from sevenruns.unitkinds import kinds_of
from tests.code_samples import BOX, CODE
from tests.kind_samples import PAIRS_KIND, TIGHT_KIND
from tests.samples import BENT, MIXING, PAIRS, Q0, Q1, Q2, SPREAD, TANK, THRICE, UNIT
from tests.unit_samples import BOTH, POOL, PUMP, UNITS

PACKAGE = Path(__file__).resolve().parent.parent / "sevenruns"
THREE = (UNIT, UNIT, UNIT)
POINT = (Q0, Q1, Q2)
SEVEN = (Q0, (-1, 1), Q2, Q0, Q1, (-2, 1), (3, 1))
LEVEL_MADE = unit_code(UNITS, "tank", "level")
ENDS = (((0, 1), (0, 1)), ((3, 1), (3, 1)))
THRICE_AVERAGE = (((0, 1), (((0, 1), (1, 4)), ((2, 3), (3, 4)))),)

# Each function with arguments that it takes, in the order of its parameters.
CALLS = {
    "things": {
        "is_integer": {"thing": 3}, "is_number": {"thing": 3}, "is_quotient": {"thing": Q1}, "is_span": {"thing": UNIT},
        "is_lot": {"size": 2, "thing": (0, 1)}, "is_bundle": {"size": 2, "thing": (0, 0)},
        "is_point": {"size": 1, "thing": (Q1,)}, "is_box": {"size": 1, "thing": (UNIT,)},
    },
    "quotients": {
        "quotient_of": {"top": 6, "bottom": -4}, "plus": {"one": Q1, "other": Q2}, "minus": {"one": Q1, "other": Q2},
        "times": {"one": Q1, "other": Q2}, "over": {"one": Q1, "other": Q2}, "less": {"one": Q1, "other": Q2},
    },
    "spans": {
        "span_plus": {"one": UNIT, "other": (Q1, Q2)}, "span_minus": {"one": UNIT, "other": (Q1, Q2)},
        "span_times": {"one": UNIT, "other": (Q1, Q2)}, "scaled_span": {"span": UNIT, "quotient": Q2},
        "holds": {"span": UNIT, "quotient": Q2}, "span_within": {"span": UNIT, "other": (Q0, Q2)},
        "spans_apart": {"one": UNIT, "other": (Q2, Q2)},
    },
    "boxes": {
        "corners_of": {"box": THREE}, "wide_sides": {"box": THREE}, "in_box": {"box": THREE, "point": POINT},
        "with_side": {"box": THREE, "which": 1, "span": (Q1, Q2)}, "point_box": {"point": POINT},
    },
    "programs": {
        "is_program": {"thing": SPREAD}, "is_plain": {"program": SPREAD}, "breadth_of": {"program": SPREAD},
        "degrees_of": {"program": SPREAD},
    },
    "programchecker": {"lets_program": {"thing": SPREAD}},
    "runs": {"run_of": {"program": SPREAD, "point": POINT}, "run_lines": {"program": SPREAD, "point": POINT}},
    "carrying": {"carried_of": {"program": SPREAD}, "numbers_of": {"program": SPREAD}, "counting_of": {"program": SPREAD}},
    "unitthings": {
        "is_name": {"thing": "a"}, "is_function": {"thing": TANK[1][0]}, "is_unit": {"thing": TANK},
        "is_units": {"thing": (TANK,)}, "functions_of": {"units": (TANK,)}, "missing_in": {"units": (TANK,)},
        "function_in": {"units": (TANK,), "unit": "tank", "function": "level"},
        "calls_in": {"units": (TANK,), "unit": "tank", "function": "level"},
    },
    "plaintexts": {
        "quotient_word": {"quotient": Q1}, "span_word": {"span": UNIT}, "box_line": {"box": THREE},
        "program_line": {"program": SPREAD}, "read_quotient": {"text": "1"}, "read_box": {"text": "0:1"},
        "read_program": {"text": "1; num 0"},
    },
    "unittexts": {"unit_text": {"unit": TANK}, "read_unit": {"text": "unit a\ndef b 0:1\nnum 0\ndone\nend"}},
    "forms": {
        "is_form": {"thing": PAIRS}, "bare_form": {"size": 2, "quotient": Q1}, "input_form": {"size": 2, "which": 1},
        "form_plus": {"one": PAIRS, "other": PAIRS}, "form_minus": {"one": PAIRS, "other": (3, ())},
        "form_times": {"one": PAIRS, "other": PAIRS}, "form_scaled": {"form": PAIRS, "quotient": Q2},
    },
    "formfacts": {
        "hangs_on": {"form": BENT}, "degree_in": {"form": BENT, "which": 1}, "is_first": {"form": BENT},
        "coefficient": {"form": BENT, "bundle": (0, 1, 1)},
    },
    "formruns": {
        "value_of": {"form": PAIRS, "point": POINT}, "with_number": {"form": PAIRS, "which": 1, "quotient": Q2},
        "step_of": {"form": PAIRS, "which": 1}, "step_two": {"form": PAIRS, "which": 1, "other": 2},
    },
    "expanding": {"form_of": {"program": MIXING}, "forms_of": {"program": MIXING}},
    "linked": {
        "linked_parts": {"form": PAIRS}, "part_of": {"form": PAIRS, "lot": (0, 1, 2)},
        "factor_between": {"form": PAIRS, "other": PAIRS},
    },
    "corners": {
        "corner_span": {"form": PAIRS, "box": THREE}, "corner_ends": {"form": PAIRS, "box": THREE},
        "corner_counts": {"form": PAIRS, "box": THREE},
    },
    "bends": {
        "bend_paper": {"form": BENT}, "lets_bend": {"program": (1, (("mul", 0, 0),)), "thing": ((Q1,), 0)},
    },
    "copies": {
        "copies_of": {"program": SPREAD}, "written_line": {"program": SPREAD},
        "run_copies": {"program": SPREAD, "numbers": (Q0, Q1, Q2, Q1)},
        "copy_change": {"program": SPREAD, "point": POINT, "copy": 0},
    },
    "spreads": {"spread_of": {"program": SPREAD}},
    "formtexts": {"form_line": {"form": PAIRS}, "read_form": {"text": "1: 0"}},
    "tolds": {"told_spans": {"program": SPREAD, "box": THREE}, "told_span": {"program": SPREAD, "box": THREE}},
    "trues": {
        "true_span": {"program": SPREAD, "box": THREE}, "lost_on": {"program": SPREAD, "box": THREE},
        "exact_on": {"program": SPREAD, "box": THREE},
    },
    "verdicts": {"fault_of": {"program": SPREAD}, "is_exact": {"program": SPREAD}},
    "exactpapers": {"exact_paper": {"program": THRICE}},
    "exactchecker": {"lets_exact": {"program": THRICE, "thing": ((3, (0, 1), (1, 3)),)}},
    "losspapers": {"loss_paper": {"program": SPREAD}, "whole_box": {"program": SPREAD}},
    "losschecker": {"lets_loss": {"program": SPREAD, "thing": ("box", (((-1, 1), Q1), (Q1, Q1), ((-1, 1), (-1, 1))))}},
    "shares": {"shares_of": {"program": THRICE}},
    "averages": {
        "average_paper": {"program": THRICE}, "is_average": {"program": THRICE},
        "lets_average": {"program": THRICE, "thing": THRICE_AVERAGE}, "average_form": {"program": THRICE, "thing": THRICE_AVERAGE},
    },
    "crosses": {
        "cross_at": {"program": MIXING, "point": POINT, "three": (0, 1, 2)}, "alike_cross": {"form": PAIRS, "three": (0, 1, 2)},
        "crossed": {"form": PAIRS},
    },
    "clans": {
        "is_clan": {"form": PAIRS, "lot": (0, 1)}, "least_clan": {"form": PAIRS, "lot": (0, 1)}, "clans_of": {"form": PAIRS},
        "strong_clans": {"form": PAIRS},
    },
    "kindmaking": {"kind_of": {"form": PAIRS}},
    "kindthings": {
        "is_kind": {"thing": TIGHT_KIND}, "lot_of": {"kind": TIGHT_KIND}, "value_by": {"kind": TIGHT_KIND, "point": POINT},
    },
    "kindchecker": {"lets_kind": {"thing": TIGHT_KIND}},
    "kindforms": {"form_by": {"kind": TIGHT_KIND, "size": 3}},
    "nodes": {
        "nodes_of": {"kind": TIGHT_KIND}, "knots_of": {"kind": PAIRS_KIND}, "breadth_by": {"kind": PAIRS_KIND},
        "case_by": {"kind": TIGHT_KIND},
    },
    "sevens": {
        "seven_bars": {"results": SEVEN}, "six_bars": {"results": SEVEN[1:]}, "free_program": {"results": SEVEN},
        "seven_paper": {"form": PAIRS},
    },
    "runcheckers": {
        "lets_seven": {"program": MIXING, "thing": ((Q0, Q0, Q2), (0, 1, 2))},
        "lets_six": {"program": MIXING, "thing": ((Q0, (1, 2), (-1, 2)), (0, 1, 2))},
    },
    "grids": {"runs_at": {"program": MIXING, "point": POINT, "lot": (0, 2)}, "grid_paper": {"form": PAIRS}},
    "gridchecker": {"lets_grid": {"program": MIXING, "thing": ((Q0, Q0, Q2), (0, 1, 2))}},
    "shapes": {
        "is_shape": {"kind": TIGHT_KIND, "thing": (0, (1, 2))}, "shape_count": {"kind": TIGHT_KIND},
        "shape_at": {"kind": TIGHT_KIND, "number": 0}, "shape_number": {"kind": TIGHT_KIND, "shape": (0, (1, 2))},
    },
    "building": {
        "program_by": {"kind": TIGHT_KIND, "size": 3, "shape": (0, (1, 2))}, "program_of": {"kind": PAIRS_KIND, "size": 3},
        "plain_of": {"kind": TIGHT_KIND, "size": 4},
    },
    "kindtexts": {"kind_line": {"kind": TIGHT_KIND}, "read_kind": {"text": "first 0 1 sum 2 1 in 0 1 in 1"}},
    "kindspans": {"span_by": {"kind": TIGHT_KIND, "box": THREE}, "node_spans": {"kind": TIGHT_KIND, "box": THREE}},
    "kindends": {"ends_by": {"kind": TIGHT_KIND, "box": THREE}, "counts_by": {"kind": TIGHT_KIND, "box": THREE}},
    "reaching": {"point_with": {"kind": TIGHT_KIND, "box": THREE, "quotient": (1, 2)}},
    "judging": {
        "is_check": {"thing": ("is", Q1)}, "check_holds": {"check": ("is", Q1), "quotient": Q1},
        "judged": {"kind": TIGHT_KIND, "box": THREE, "check": ("is", Q1)},
    },
    "showing": {
        "shown": {"kind": TIGHT_KIND, "box": THREE, "check": ("is", Q1)},
        "lets_shown": {"program": SPREAD, "box": THREE, "check": ("is", Q0), "thing": ((Q0, Q0, Q0), (Q1, Q1, Q1))},
    },
    "budgets": {
        "budget_far": {"kind": TIGHT_KIND, "box": THREE, "which": 0, "span": (Q0, Q2)},
        "budget_near": {"kind": TIGHT_KIND, "box": THREE, "which": 0, "span": ((-2, 1), Q2)},
    },
    "pieces": {"pieces_of": {"kind": TIGHT_KIND, "box": THREE, "which": 0}},
    "letters": {"letters_of": {"kind": TIGHT_KIND, "lot": (1, 5)}},
    "grafting": {"grafted": {"kind": TIGHT_KIND, "kinds": tuple(("first", Q1, Q2, k) for k in range(3))}},
    "kindsums": {
        "input_kind": {"which": 3}, "bare_kind": {"quotient": Q2}, "kind_plus": {"one": TIGHT_KIND, "other": PAIRS_KIND},
        "kind_minus": {"one": TIGHT_KIND, "other": PAIRS_KIND}, "kind_times": {"one": TIGHT_KIND, "other": PAIRS_KIND},
        "kind_scaled": {"kind": TIGHT_KIND, "quotient": Q2},
    },
    "kindcalls": {
        "called": {"kind": TIGHT_KIND, "kinds": (PAIRS_KIND, TIGHT_KIND, ("bare", Q2))}, "renamed_kind": {"kind": TIGHT_KIND, "places": (5, 3, 4)},
        "fixed_kind": {"kind": TIGHT_KIND, "which": 1, "quotient": Q2},
    },
    "unitlinks": {"rings_in": {"units": UNITS}, "misfits_in": {"units": UNITS}, "order_of": {"units": UNITS}},
    "unitkinds": {"kinds_of": {"units": UNITS}, "place_kinds": {"units": UNITS, "unit": "tank", "function": "level"}},
    "packs": {
        "is_pack": {"thing": pack_of(UNITS)}, "pack_of": {"units": UNITS}, "joined": {"one": pack_of((POOL,)), "other": pack_of((PUMP,))},
    },
    "sites": {
        "sites_of": {"units": UNITS}, "keeps_of": {"units": UNITS}, "all_sound": {"units": UNITS},
        "show_site": {"units": UNITS, "unit": "tank", "function": "level", "line": 1, "number": 0},
        "show_keep": {"units": UNITS, "unit": "tank", "function": "level", "place": 2},
    },
    "edits": {
        "made_anew": {"units": BOTH, "other": (POOL,)}, "kinds_after": {"units": BOTH, "kinds": kinds_of(BOTH), "other": (POOL,)},
    },
    "written": {"written_program": {"units": UNITS, "unit": "tank", "function": "level"}},
    "unitruns": {
        "run_function": {"units": UNITS, "unit": "tank", "function": "level", "point": (Q1, Q2)},
        "out_of_sides": {"units": UNITS, "unit": "tank", "function": "level", "point": (Q1, Q1)},
    },
    "codethings": {"is_code": {"thing": CODE}, "lets_code": {"thing": CODE}},
    "widths": {
        "width_for": {"low": -3, "high": 6}, "fits": {"width": 3, "integer": 4}, "guards_of": {"code": CODE, "width": 3},
        "narrowed": {"code": CODE, "row": 3},
    },
    "machine": {"run_code": {"code": CODE, "point": (Q1, Q2)}, "trace_code": {"code": CODE, "point": (Q1, (4, 1))}},
    "coding": {"code_of": {"kind": TIGHT_KIND, "box": THREE}},
    "rowspans": {"row_spans": {"code": CODE, "box": BOX}},
    "widthpapers": {"width_paper": {"code": CODE, "box": BOX}},
    "widthchecker": {"lets_widths": {"code": CODE, "box": BOX, "thing": (ENDS,) * 4}},
    "unitcode": {
        "unit_code": {"units": UNITS, "unit": "tank", "function": "level"}, "run_unit_code": {"made": LEVEL_MADE, "point": (Q0, Q1)},
    },
    "codetexts": {"code_text": {"code": CODE}, "read_code": {"text": "code 2 2\nin 1 3\nadd 0 0 4"}},
    "liveevents": {"is_event": {"thing": ("drop", "pump")}, "is_log": {"thing": (("drop", "pump"), ("day",))}},
    "reasons": {"reason_of": {"units": BOTH, "event": ("remove", "pump", "flow")}},
    "stepping": {"units_after": {"units": BOTH, "event": ("drop", "pump")}},
    "replaying": {
        "replayed": {"units": BOTH, "log": (("drop", "pump"), ("day",))}, "days_of": {"units": BOTH, "log": (("drop", "pump"), ("day",))},
        "cut_log": {"log": (("drop", "pump"), ("day",)), "many": 1},
    },
    "eventtexts": {
        "event_text": {"event": ("put", PUMP)}, "log_text": {"log": (("put", PUMP), ("day",))}, "read_event": {"text": "drop pump"},
        "read_log": {"text": "drop pump\nday"},
    },
    "desk": {"desk_line": {"live": LiveUnits(BOTH), "text": "kind pool level"}},
}
STARRED = {
    "forms": {"form_from": ("size", "terms")},
}
CLASSES = {
    "programclasses": {"Program": {"__init__": ("size", "lines"), "run": ("point",), "breadth": (), "then": ("line",),
                                   "told": (), "__len__": (), "__eq__": ("other",)}},
    "formclasses": {"Form": {"__init__": ("size", "terms"), "plus": ("other",), "times": ("other",), "at": ("point",),
                             "hangs": (), "first": (), "told": (), "__eq__": ("other",)}},
    "judgeclasses": {"Judge": {"__init__": ("program",), "told": ("box",), "true": ("box",), "lost": ("box",), "exact": (),
                               "fault": (), "paper": (), "__eq__": ("other",)}},
    "kindclasses": {"Kind": {"__init__": ("form",), "told": (), "case": (), "breadth": (), "clans": (), "at": ("point",),
                             "line": (), "__eq__": ("other",)}},
    "reachclasses": {"Reach": {"__init__": ("kind", "box"), "span": (), "ends": (), "counts": (), "judged": ("check",),
                               "budget": ("which", "span"), "with_side": ("which", "span"), "__eq__": ("other",)}},
    "linkclasses": {"Linked": {"__init__": ("units",), "kind": ("unit", "function"), "run": ("unit", "function", "point"), "sites": (), "keeps": (),
                               "sound": (), "with_unit": ("unit",), "told": (), "__eq__": ("other",)}},
    "codeclasses": {"Machine": {"__init__": ("code",), "run": ("point",), "trace": ("point",), "widths": (), "guards": ("width",), "told": (),
                                "__eq__": ("other",)}},
    "liveasks": {"LiveAsks": {"__init__": ("units",), "units_now": (), "kind_now": ("unit", "function"), "span_now": ("unit", "function"), "sites_now": (),
                              "keeps_now": (), "sound_now": (), "anew": (), "anew_counts": ()}},
    "live": {"LiveUnits": {"__init__": ("units",), "put": ("unit",), "drop": ("name",), "define": ("name", "function"), "take_out": ("name", "function"),
                           "side": ("name", "function", "which", "span"), "day": (), "go": ("event",), "barred": ("event",), "do_all": ("events", "keep"),
                           "undo": ("steps",), "tried": ("events",), "log": (), "__eq__": ("other",)}},
}
# The only parameters that may be left out.
DEFAULTS = {("LiveUnits", "do_all", "keep"): False, ("LiveUnits", "undo", "steps"): 1}
ERRORS = ("LossError", "PaperError", "FormError", "UnitError", "LiveError", "TextError", "InvalidPaper", "NotUsable", "Bent",
          "Knotted", "NotExact", "Missing", "Ringed", "Misfit", "Trapped", "Broken", "InvalidEvent", "NothingToUndo",
          "InvalidText")


def loaded(module):
    return importlib.import_module("sevenruns." + module)


def defined_in(module, kind):
    """The nodes of this kind that stand in the file itself, by their names."""
    tree = ast.parse((PACKAGE / (module + ".py")).read_text())
    return {node.name: node for node in tree.body if isinstance(node, kind)}


def result(function, /, *given, **named):
    """What the call returns; of a generator, all that it gives."""
    found = function(*given, **named)
    return list(found) if inspect.isgenerator(found) else found


def shown(value):
    """A string that tells a value, or living units."""
    return repr((value.units_now(), value.log()) if isinstance(value, LiveUnits) else value)


class Interface(unittest.TestCase):
    def test_functions_are_defined_in_their_files(self):
        for table in (CALLS, STARRED):
            for module, functions in table.items():
                own = defined_in(module, ast.FunctionDef)
                for name, given in functions.items():
                    self.assertIn(name, own, module)
                    parameters = inspect.signature(getattr(loaded(module), name)).parameters
                    self.assertEqual(tuple(parameters), tuple(given), name)

    def test_starred_parameters(self):
        functions = [loaded("forms").form_from, loaded("programclasses").Program, loaded("formclasses").Form]
        for function in functions:
            kinds = [parameter.kind for parameter in inspect.signature(function).parameters.values()]
            self.assertEqual(kinds, [inspect.Parameter.POSITIONAL_OR_KEYWORD, inspect.Parameter.VAR_POSITIONAL])

    def test_classes_and_their_methods_are_defined_in_their_files(self):
        for module, classes in CLASSES.items():
            own = defined_in(module, ast.ClassDef)
            for name, methods in classes.items():
                body = {node.name: node for node in own[name].body if isinstance(node, ast.FunctionDef)}
                for method, given in methods.items():
                    self.assertIn(method, body)
                    names = tuple(inspect.signature(getattr(getattr(loaded(module), name), method)).parameters)
                    self.assertEqual(names[1:], given, method)

    def test_parameters_that_may_be_left_out(self):
        found = {}
        for module, classes in CLASSES.items():
            for name, methods in classes.items():
                for method in methods:
                    for parameter in inspect.signature(getattr(getattr(loaded(module), name), method)).parameters.values():
                        if parameter.default is not parameter.empty:
                            found[(name, method, parameter.name)] = parameter.default
        for module, functions in CALLS.items():
            for name in functions:
                for parameter in inspect.signature(getattr(loaded(module), name)).parameters.values():
                    self.assertIs(parameter.default, parameter.empty, name)
        self.assertEqual(repr(found), repr(DEFAULTS))

    def test_errors_are_defined_in_their_file(self):
        self.assertEqual(sorted(defined_in("errors", ast.ClassDef)), sorted(ERRORS))

    def test_by_position_and_by_name(self):
        for module, functions in CALLS.items():
            for name, given in functions.items():
                function = getattr(loaded(module), name)
                by_position = result(function, *given.values())
                by_name = result(function, **dict(reversed(list(given.items()))))
                self.assertEqual(shown(by_position), shown(by_name), name)

    def test_arguments_stay(self):
        for module, functions in CALLS.items():
            for name, given in functions.items():
                before = deepcopy(given)
                result(getattr(loaded(module), name), **given)
                self.assertEqual([shown(value) for value in given.values()], [shown(value) for value in before.values()], name)

    def test_lists_that_are_refused_stay(self):
        terms, box = [((0,), Q1)], [UNIT, UNIT, UNIT]
        self.assertIs(loaded("forms").is_form((1, terms)), False)
        self.assertIs(loaded("things").is_box(3, box), False)
        self.assertEqual((terms, box), ([((0,), Q1)], [UNIT, UNIT, UNIT]))

    def test_only_corners_of_is_a_generator(self):
        for module, functions in CALLS.items():
            for name in functions:
                self.assertIs(inspect.isgeneratorfunction(getattr(loaded(module), name)), name == "corners_of", name)

    def test_several_values_are_tuples_throughout(self):
        for module, functions in CALLS.items():
            for name, given in functions.items():
                found = result(getattr(loaded(module), name), **given)
                for value in found if name == "corners_of" else [found]:
                    self.assertTrue(is_plain_value(value) or name == "replayed", name)


def is_plain_value(value):
    """True if value is None, a bool, an int, a string, or a tuple of such, in which True is not 1."""
    if isinstance(value, tuple):
        return value.__class__ is tuple and all(is_plain_value(entry) for entry in value)
    return value is None or value.__class__ in (bool, int, str)
