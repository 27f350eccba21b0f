"""The interface: every name in its file, with its arguments, and every method in its class itself."""

import ast
import importlib
import inspect
import unittest

from everyfuture.curves import Curve
from everyfuture.desk import Desk
from everyfuture.errors import FutureError
from everyfuture.houses import House
from everyfuture.kinds import Kind
from everyfuture.lines import Line
from everyfuture.orders import Orders
from everyfuture.plans import Plans
from everyfuture.promises import Promises
from everyfuture.works import Works
from tests.test_language import PACKAGE

FUNCTIONS = {
    "stretches": ["join_stretches(stretches)", "common_stretches(first, second)", "has_number(stretches, number)"],
    "futures": ["is_gauge(name)", "value_of(reading, future)", "part_of(future, gauges)"],
    "kinds": ["single(future)", "menu(gauge, values)", "both(kinds)", "either(kinds)"],
    "few": ["few(most, pairs)"],
    "ends": ["opposite(signs)", "is_as_far(first, second, signs)", "corner(kind, index, signs)", "ends(kind, signs)"],
    "profiles": ["sum_merge(first, second)", "least_merge(first, second)"],
    "rises": ["raised_cost(plans, calm, rises, threshold)", "worst_cost(plans, decisions, calm, rises, k)",
              "later_costs(plans, calm, rises)", "now_costs(plans, calm, rises)", "later_rises(plans, calm, rises, k)",
              "now_choice(plans, calm, rises, k)"],
    "sections": ["make_ratio(numerator, denominator)", "sections(steps)"],
    "works": ["lead_span(works, project, kind)"],
    "waits": ["backlogs(rows, group)", "least_total(rows, group)"],
    "keeping": ["shortfall(promises, limits, future)", "breach(promises, limits, kind)", "least_limit(promises, kind)"],
    "losses": ["loss(department, decision, kind)", "is_safe(department, decision, kind)",
               "within(department, kind, *, limit=0)", "least_loss(department, kind)",
               "parting(department, kind, *, limit=0)"],
    "news": ["settling(department, kind, gauge, *, limit=0, most=20)", "best_question(department, kind, gauge)",
             "safe_from(department, decision, kind, gauge, *, limit=0)",
             "safe_up_to(department, decision, kind, gauge, *, limit=0)"],
    "days": ["separate_losses(house, decision, kind)", "is_product(house, kind)", "advice(house, kind)",
             "least_day(house, kind)", "settling_house(house, kind, gauge, *, most=20)"],
    "surprises": ["surprise_losses(department, decision, pairs)", "merged_losses(house, decision, pairs)",
                  "most_surprises(department, decision, pairs, *, limit=0)"],
    "papers": ["paper_bound(department, decision, kind, rows)", "make_paper(department, decision, kind)"],
    "words": ["write_list(values)", "read_list(text)"],
    "kindtext": ["write_kind(kind)", "read_kind(text)", "write_future(future)", "read_future(text)"],
    "worktext": ["write_department(department)", "read_department(text)"],
    "deedtext": ["write_paper(rows)", "read_paper(text)", "write_commands(commands)", "read_commands(text)"],
}
HOUSE = ["is_finished(self)", "allows(self, decision)", "after(self, decision)", "regret(self, decision, future)",
         "directions(self, decision)", "least(self, future)", "finish(self, future)", "cost(self, decisions, future)",
         "certificate(self, future)", "bound(self, certificate, future)"]
LEAF = HOUSE + ["level(self, future, limit)"]
ROW = LEAF + ["curve(self, future)"]
CLASSES = {
    "kinds.Kind": ["__init__(self, gauges, boxes)", "__or__", "__and__", "__sub__", "__mul__", "__contains__", "__eq__",
                   "__iter__(self)", "size(self)", "is_part_of(self, other)",
                   "cut(self, gauge, *, low=None, high=None)",
                   "onto(self, gauges)", "span(self, gauge)", "values_of(self, gauge)", "future_at(self, number)",
                   "number_of(self, future)", "complete(self, partial)"],
    "curves.Curve": ["__init__(self, base, pieces)", "__call__(self, x)", "__add__", "__eq__", "__iter__(self)",
                     "slope(self, x)", "lowest(self)", "level(self, limit)"],
    "lines.Line": ["__init__(self, base, left, corners)", "__call__(self, x)", "__add__", "__eq__", "slope(self, x)",
                   "moved(self, by)", "fed(self, price, room, extra)"],
    "orders.Orders": ROW + ["__init__(self, periods, *, stock=0, urgent=0, placed=())", "spent(self, future)",
                            "stock_now(self, future)", "to_go(self, future)"],
    "plans.Plans": LEAF + ["__init__(self, term, *, placed=())", "chosen(self)"],
    "works.Works": LEAF + ["__init__(self, projects, *, placed=())", "lead(self, project, future)"],
    "promises.Promises": ROW + ["__init__(self, rates, table, *, fine, placed=())", "rows(self, future)",
                                "demand(self, group, future)", "needs(self, future)"],
    "houses.House": HOUSE + ["__init__(self, departments)"],
    "desk.Desk": ["__init__(self, house, kind)", "__iter__(self)", "decide(self, decision)",
                  "learn(self, gauge, *, low=None, high=None)", "undo(self)", "redo(self)", "run(self, commands)",
                  "account(self, future)", "kept(self)"],
}
ERRORS = {
    "gauge": ["InvalidGauge", "OtherGauges", "SharedGauge", "MissingGauge", "OutOfRange", "InvalidSign"],
    "index": ["InvalidBox", "InvalidPlan", "InvalidCertificate", "InvalidCurve", "InvalidCorner", "InvalidPeriod",
              "InvalidRate", "SplitPair", "InvalidRow"],
    "": ["EmptyKind", "NotInKind", "NothingOpen", "Unbounded"],
    "amount": ["InvalidAmount"], "count": ["InvalidNumber"], "node": ["InvalidTerm"], "slot": ["InvalidSlot"],
    "value": ["NotSettled"], "line": ["InvalidText"], "project, step": ["InvalidStep"], "decision": ["InvalidDecision"],
    "group": ["InvalidGroup"], "future, group": ["NotKept"], "direction, future": ["NotCovered"],
}
ATTRIBUTES = {
    "gauges cells": lambda: Kind(["a"], [[(0, 1)]]),
    "base pieces": lambda: Curve(0, [(0, 1)]),
    "base left corners": lambda: Line(0, 0, []),
    "periods stock urgent placed gauges hour_gauges": lambda: Orders([]),
    "term placed gauges hour_gauges": lambda: Plans(3),
    "projects placed gauges hour_gauges": lambda: Works([]),
    "rates table fine placed gauges hour_gauges": lambda: Promises([1], [], fine=1),
    "parts gauges hour_gauges": lambda: House([]),
    "house kind told busy start": lambda: Desk(House([]), Kind([], [[]])),
}


def file_tree(module):
    return ast.parse((PACKAGE / f"{module}.py").read_text("ascii"))


def defined(body, kind):
    """Return the names that are defined by `def` or `class` in the body itself."""
    return [node.name for node in body if isinstance(node, kind)]


class Interface(unittest.TestCase):
    def test_functions_are_defined_in_their_files(self):
        for module, rows in FUNCTIONS.items():
            names = defined(file_tree(module).body, ast.FunctionDef)
            found = importlib.import_module(f"everyfuture.{module}")
            for row in rows:
                name, arguments = row.split("(", 1)
                self.assertIn(name, names, module)
                self.assertEqual(str(inspect.signature(getattr(found, name))), "(" + arguments)

    def test_methods_stand_in_their_classes(self):
        for place, rows in CLASSES.items():
            module, name = place.split(".")
            own = [node for node in file_tree(module).body if isinstance(node, ast.ClassDef) and node.name == name]
            self.assertEqual(len(own), 1, place)
            found = getattr(importlib.import_module(f"everyfuture.{module}"), name)
            for row in rows:
                method = row.split("(")[0]
                self.assertIn(method, defined(own[0].body, ast.FunctionDef), place)
                if "(" in row:
                    self.assertEqual(str(inspect.signature(vars(found)[method])), row[len(method):], place)

    def test_errors(self):
        errors = importlib.import_module("everyfuture.errors")
        names = [name for rows in ERRORS.values() for name in rows]
        self.assertEqual(sorted(defined(file_tree("errors").body, ast.ClassDef)), sorted(names + ["FutureError"]))
        self.assertEqual(FutureError.__bases__, (ValueError,))
        values = {"future": {"b": 1, "a": 2}, "group": [1, [2]], "decision": [1, (2, None)]}
        for attributes, rows in ERRORS.items():
            kept = attributes.split(", ") if attributes else []
            for name in rows:
                found = getattr(errors, name)
                self.assertEqual(found.__bases__, (FutureError,))
                error = found(*[values.get(key, 7) for key in kept])
                self.assertEqual(list(vars(error)), kept)
                self.assertTrue(str(error) or not kept)

    def test_attributes_are_set_in_each_object(self):
        for names, create in ATTRIBUTES.items():
            for name in names.split(" "):
                self.assertIn(name, vars(create()))


if __name__ == "__main__":
    unittest.main()
