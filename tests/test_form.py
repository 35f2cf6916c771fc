"""The form of the package's files, as far as a short test can tell it."""

import ast
import inspect
import os
import unittest

import soldages
from soldages import console, costs, errors, exchanges, layers, logs, pairs
from soldages import rules, spoiling, spread, store, thresholds

FOLDER = os.path.dirname(soldages.__file__)
LIBRARY = ("heapq", "math", "itertools", "collections", "__future__")
INTERFACE = {
    errors: {
        "StoreError": None, "InvalidText": ["row"], "NotLawful": ["day"], "TooLarge": ["count"], "NotComparable": [],
        "MoreSpread": ["level"], "NoChoice": ["number"], "Worse": ["future"], "NotThere": ["day"],
        "InvalidRow": ["row"], "UnknownName": ["name"],
    },
    logs: {"Log": ["days"], "is_choice": ["log", "value"], "ages_of": ["choice"]},
    rules: {"choice_by": ["log", "rule"], "choices": ["log"]},
    spread: {
        "Table": ["entries"], "transfers": ["first", "second"], "is_transfers": ["first", "second", "value"],
        "compared": ["first", "second"],
    },
    exchanges: {
        "exchanged": ["choice", "first", "second"], "kind_of": ["first", "second"], "chain": ["log", "choice", "rule"],
        "is_chain": ["log", "value"], "path": ["log", "first", "second"],
    },
    pairs: {
        "is_possible": ["log", "day_in", "day_out"], "choice_with": ["log", "day_in", "day_out"],
        "possible_ages": ["log", "day_out"], "runs": ["log"],
    },
    thresholds: {
        "bounds": ["log", "level"], "choice_with_number": ["log", "level", "number"],
        "prices_for": ["log", "level", "*least"], "is_prices": ["log", "level", "value", "*least"],
    },
    costs: {"Goods": ["days"]},
    layers: {
        "left_prices": ["goods", "rule"], "left_by_period": ["goods", "rule", "ends"], "value_of": ["prices"],
    },
    spoiling: {
        "Shop": ["life", "rule", "*stock"], "never_worse": ["first", "second"], "matching": ["first", "second"],
    },
    store: {"Store": []},
    console: {"Console": []},
}
METHODS = {
    (logs, "Log"): {
        "parse": ["cls", "text"], "stock": ["self", "day"], "__str__": ["self"], "__eq__": ["self", "other"],
    },
    (spread, "Table"): {"cost": ["self", "ages"], "__eq__": ["self", "other"]},
    (costs, "Goods"): {
        "greatest": ["self"], "least": ["self"], "taken": ["self", "count", "*dearest"], "totals": ["self", "count"],
    },
    (spoiling, "Shop"): {"pass_day": ["self", "arrived", "demanded"]},
    (store, "Store"): {
        "arrive": ["self", "count"], "sell": ["self", "day_in"], "sell_by": ["self", "rule"], "next_day": ["self"],
        "log": ["self"], "ages": ["self"], "best": ["self"], "worst": ["self"], "fork": ["self"],
    },
    (console, "Console"): {"answer": ["self", "row"]},
}
PROPERTIES = {(spoiling, "Shop"): ["lives", "served", "spoiled"], (store, "Store"): ["today", "held"]}


def parameters(thing):
    """Return the names of the parameters, with a star ahead of those that must be passed by name."""
    told = inspect.signature(thing).parameters.values()
    return [("*" if one.kind is one.KEYWORD_ONLY else "") + one.name for one in told]


def sources():
    """Return the names and the texts of the files of the package."""
    found = []
    for name in sorted(os.listdir(FOLDER)):
        if name.endswith(".py"):
            with open(os.path.join(FOLDER, name), encoding="utf-8") as file:
                found.append((name, file.read()))
    return found


class FormTest(unittest.TestCase):
    def test_sizes_and_characters(self):
        for name, text in sources():
            lines = text.split("\n")
            self.assertLessEqual(len(lines), 399, name)
            self.assertLessEqual(max(len(line) for line in lines), 120, name)
            self.assertTrue(all(char == "\n" or " " <= char <= "~" for char in text), name)
            for node in ast.walk(ast.parse(text)):
                if isinstance(node, ast.FunctionDef):
                    self.assertLessEqual(node.end_lineno - node.lineno + 1, 40, node.name)

    def test_imports(self):
        for name, text in sources():
            for node in ast.walk(ast.parse(text)):
                self.assertNotIsInstance(node, ast.Import, name)
                if isinstance(node, ast.ImportFrom):
                    self.assertEqual(node.level, 0, name)
                    self.assertTrue(node.module.startswith("soldages.") or node.module in LIBRARY, name)

    def test_the_interface_is_defined_in_its_files(self):
        for module, names in INTERFACE.items():
            for name, expected in names.items():
                thing = getattr(module, name)
                self.assertEqual(thing.__module__, module.__name__)
                if expected is not None:
                    self.assertEqual(parameters(thing), expected, name)

    def test_the_methods_stand_in_their_classes(self):
        for (module, name), methods in METHODS.items():
            own = vars(getattr(module, name))
            for method, expected in methods.items():
                function = getattr(own[method], "__func__", own[method])
                self.assertEqual(parameters(function), expected, method)

    def test_the_properties_stand_in_their_classes(self):
        for (module, name), properties in PROPERTIES.items():
            for one in properties:
                self.assertIsInstance(vars(getattr(module, name))[one], property, one)


if __name__ == "__main__":
    unittest.main()
