"""The names, arguments and methods of the interface, as far as they have landed."""

import importlib
import inspect
import unittest

FUNCTIONS = {
    "logcores.kinds": {
        "is_table": ["value"], "put_all": ["kinds", "row"], "opposite": ["kinds"], "renamed": ["kinds", "sent"],
        "can_cover": ["kinds"], "can_stop": ["kinds"],
    },
    "logcores.rules": {
        "rule_with": ["rule", "covers", "stops"], "rule_without": ["rule", "covers", "stops"],
        "meet_rule": ["one", "other"], "union_rule": ["one", "other"], "is_within": ["one", "other"],
        "mirrored_rule": ["rule"], "renamed_rule": ["rule", "sent"],
    },
}
CLASSES = {
    "logcores.kinds": {"Kinds": {"__init__": ["table"], "table": [], "words": [], "put": ["first", "second"],
                                 "__eq__": ["other"]}},
    "logcores.rules": {"Rule": {"__init__": ["kinds", "covers", "stops"], "kinds": [], "covers": [], "stops": [],
                                "__eq__": ["other"]}},
}


def told_parameters(call):
    told = inspect.signature(call).parameters.values()
    return [(one.name, one.kind, one.default) for one in told]


def plain_parameters(names):
    return [(name, inspect.Parameter.POSITIONAL_OR_KEYWORD, inspect.Parameter.empty) for name in names]


class TheInterface(unittest.TestCase):
    def test_functions_stand_in_their_files_with_their_parameters(self):
        for file, functions in FUNCTIONS.items():
            for name, parameters in functions.items():
                call = getattr(importlib.import_module(file), name)
                self.assertTrue(inspect.isfunction(call), name)
                self.assertEqual(call.__module__, file)
                self.assertEqual(told_parameters(call), plain_parameters(parameters), name)

    def test_classes_stand_in_their_files_with_their_own_methods(self):
        for file, classes in CLASSES.items():
            for name, methods in classes.items():
                made = getattr(importlib.import_module(file), name)
                self.assertEqual(made.__module__, file)
                for method, parameters in methods.items():
                    self.assertIn(method, vars(made), name)
                    self.assertEqual(told_parameters(vars(made)[method]), plain_parameters(["self"] + parameters), method)


if __name__ == "__main__":
    unittest.main()
