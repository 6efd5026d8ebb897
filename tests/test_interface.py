import importlib
import inspect
import pathlib
import unittest

import leastpowers

# The modules in the order in which they may use one another, with their functions and the parameters of these.
INTERFACE = {
    "errors": {},
    "forms": {
        "is_integer": "thing", "is_order": "thing", "is_fraction": "thing", "is_number": "thing",
        "is_quotient": "thing", "are_bounds": "thing", "is_wait": "many, thing", "is_system": "thing",
        "is_plan": "system, thing", "is_table": "thing", "is_telling": "table, thing", "are_orders": "table, thing",
    },
    "numbers": {
        "term": "power, factor", "total": "numbers", "less": "one, other", "times": "one, other",
        "leading_of": "number", "quotient": "num, den", "total_of": "quotients", "times_of": "one, other",
        "over_of": "one, other", "order_of": "number", "quotient_order": "one", "later": "order, delay",
        "least_order": "orders", "least_items": "one, other", "are_equal": "one, other", "not_above": "one, other",
    },
    "tables": {
        "low_high": "table, row, unknown", "without_rights": "table", "with_row": "table, row",
        "without_row": "table, index", "with_bounds": "table, row, place, least, greatest",
        "renumbered": "table, order", "ordered_rows": "table, order", "moved_rows": "table, shifts",
    },
    "texts": {"show_table": "table", "show_system": "system"},
    "reader": {"read_table": "text", "read_system": "text"},
    "plans": {
        "keeps_wait": "plan, wait", "keeps": "system, plan", "unkept": "system, plan", "shifted": "plan, by",
        "earliest_by": "plan, wait",
    },
    "leastplan": {
        "least_plan": "system", "barred_events": "system", "together": "system, events", "with_waits": "system, more",
        "without_waits": "system, indexes",
    },
    "ownwaits": {
        "own_waits": "system", "is_own_waits": "system, thing", "is_decision": "system, event, thing",
        "weights_for": "system, chosen", "decision_of": "system, event",
    },
    "floors": {
        "least_from": "system, floors", "cause_of": "system, floors, event", "is_cause": "system, floors, event, thing",
    },
    "gaps": {
        "with_gap": "system, one, other, gap", "gap_span": "system, one, other",
        "plan_with_gap": "system, one, other, gap", "gap_paper": "system, one, other, gap",
    },
    "binding": {
        "binding": "system, floors", "slack_of": "system, plan",
        "greatest_delay": "system, floors, ceilings, index, place",
    },
    "following": {
        "contrary": "system, wait", "follows": "system, wait", "is_follow_paper": "system, wait, thing",
        "counter_plan": "system, wait", "follow_paper": "system, wait",
    },
    "lots": {
        "system_of_lot": "system, lot", "least_bars": "system, event", "greatest_frees": "system, event",
        "first_bar": "system, event",
    },
    "alike": {
        "parting_plan": "one, other", "says_same": "one, other", "needless_waits": "system", "spare_system": "system",
        "shorter_wait": "system, index",
    },
    "tablewaits": {"system_of": "table", "wait_places": "table"},
    "tellings": {
        "is_answer": "table, telling, thing", "is_shown": "table, orders, thing", "orders_of": "answer",
        "telling_for": "table, orders",
    },
    "standing": {"stands": "table, orders", "lonely_side": "table, orders"},
    "leastorders": {
        "some_orders": "table", "orders_with": "table, wanted", "order_span": "table, unknown",
        "least_at_once": "table", "least_telling": "table", "may_be_none": "table, unknown",
    },
    "orderpapers": {
        "below": "table, unknown, order", "above": "table, unknown, order", "least_paper": "table, unknown, order",
        "greatest_paper": "table, unknown, order", "is_least_paper": "table, unknown, order, thing",
        "is_greatest_paper": "table, unknown, order, thing",
    },
    "silence": {
        "is_silent": "table", "loud_orders": "table", "barred_unknowns": "table", "silent_lots": "table",
    },
    "ownrows": {"own_rows": "table", "own_weights": "table, rows", "is_own": "table, thing"},
    "margins": {"greatest_margin": "table, row, place", "least_margin": "table, row, place"},
    "determinants": {
        "determinant_span": "table", "lead_of": "table, telling", "answer_of": "table, telling", "own_gap": "table",
        "determinant_of": "table, telling",
    },
    "walks": {
        "is_walk": "table, thing", "length_of": "table, walk", "walks_of": "table, unknown, most",
        "shortest": "table, unknown", "second_length": "table, unknown",
    },
    "formulas": {
        "told_orders": "table", "parting_tellings": "table, unknown", "formula_of": "table, unknown",
        "sure_by": "table, unknown",
    },
    "tones": {"table_at": "table, s", "no_tone": "table, s", "tone_orders": "table, s"},
    "counted": {"tones_above": "table, s", "roots_above": "polynomial, s", "polynomial_of": "table, telling"},
    "tonegaps": {"gap_of": "table, s"},
    "sametables": {
        "parting_orders": "one, other", "stand_alike": "one, other", "needless_rows": "table", "spare_table": "table",
    },
    "readback": {
        "is_fit": "table, runs, row, thing", "fit_of": "table, runs, row", "fit_span": "table, runs, row, place",
        "side_system": "table, runs, row", "wrong_runs": "table, runs, row",
    },
    "realnumbers": {
        "small_of": "table, size", "worth_of": "number, at", "off_by": "table, size, small, unknown",
        "telling_at": "telling, at", "real_answer": "table, numbers", "reach_of": "table, size, small",
        "is_real": "table, size, small, thing", "is_reach": "table, size, small, thing",
    },
    "live": {},
    "desk": {},
}

# The classes, but those of errors, with the parameters of their methods.
CLASSES = {
    ("live", "Live"): {
        "__init__": "self, system", "put_wait": "self, wait", "drop_wait": "self, index", "owe": "self, duty",
        "free": "self, index", "system": "self", "duties": "self", "plan": "self", "back": "self", "again": "self",
        "twin": "self", "__eq__": "self, other",
    },
    ("desk", "Desk"): {"__init__": "self, text", "execute": "self, line", "live": "self"},
}

FOLDER = pathlib.Path(leastpowers.__file__).parent


class InterfaceTest(unittest.TestCase):
    def test_functions_have_their_names_and_parameters(self):
        for file, functions in INTERFACE.items():
            module = importlib.import_module(f"leastpowers.{file}")
            for name, parameters in functions.items():
                function = getattr(module, name)
                self.assertTrue(inspect.isfunction(function), name)
                self.assertEqual(f"leastpowers.{file}", function.__module__)
                self.assertEqual(f"({parameters})", str(inspect.signature(function)), name)

    def test_classes_define_their_methods_themselves(self):
        for (file, name), methods in CLASSES.items():
            made = getattr(importlib.import_module(f"leastpowers.{file}"), name)
            self.assertTrue(inspect.isclass(made), name)
            self.assertEqual(f"leastpowers.{file}", made.__module__)
            for method, parameters in methods.items():
                self.assertTrue(inspect.isfunction(vars(made)[method]), method)
                self.assertEqual(f"({parameters})", str(inspect.signature(vars(made)[method])), method)

    def test_errors_have_their_parameters(self):
        module = importlib.import_module("leastpowers.errors")
        fields = {
            "duty": ["Broken", "NoDuty"], "orders": ["CanBe", "NotSilent"], "row": ["NoFit", "NotExact"],
            "index": ["NoIndex"], "event": ["NoPlan"], "line": ["NoText"], "unknown": ["NotTold"],
            "most": ["TooMany"], "place": ["Wrong"],
        }
        for field, names in fields.items():
            for name in names:
                self.assertEqual(f"({field})", str(inspect.signature(getattr(module, name))), name)

    def test_the_package_is_one_folder_of_these_files(self):
        found = [path.name for path in FOLDER.iterdir() if path.name != "__pycache__"]
        self.assertEqual(sorted(["__init__.py", *[f"{file}.py" for file in INTERFACE]]), sorted(found))
        self.assertEqual("", (FOLDER / "__init__.py").read_text())
