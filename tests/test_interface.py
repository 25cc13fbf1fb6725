import importlib
import inspect
import unittest

FUNCTIONS = {
    "keys": {
        "is_key": ["value"],
        "is_bound": ["value"],
        "is_range": ["low", "high"],
        "below": ["one", "other"],
        "contains": ["low", "high", "bound"],
        "overlap": ["low", "high", "other_low", "other_high"],
    },
}

CLASSES = {
    "errors": {
        "TableError": {}, "BadText": {}, "BadOperation": {}, "BadLetter": {}, "BadShard": {},
        "BadRecord": {}, "BadServer": {}, "DiskError": {}, "DiskCrashed": {},
        "BadSchedule": {"__init__": ["self", "line", "reason"]},
    },
}


def parameters(function):
    return list(inspect.signature(function).parameters)


class InterfaceTest(unittest.TestCase):
    def test_functions(self):
        for name, functions in FUNCTIONS.items():
            module = importlib.import_module("boundstone." + name)
            for function, expected in functions.items():
                with self.subTest(function):
                    found = getattr(module, function)
                    self.assertEqual(found.__module__, module.__name__)
                    self.assertEqual(parameters(found), expected)

    def test_classes(self):
        for name, classes in CLASSES.items():
            module = importlib.import_module("boundstone." + name)
            for called, methods in classes.items():
                found = getattr(module, called)
                self.assertEqual(found.__module__, module.__name__)
                for method, expected in methods.items():
                    with self.subTest((called, method)):
                        self.assertEqual(parameters(vars(found)[method]), expected)


if __name__ == "__main__":
    unittest.main()
