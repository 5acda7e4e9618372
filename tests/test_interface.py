"""The interface: its names, arguments and files are as the document lists them."""

import importlib
import inspect
import unittest

LISTED = {
    "leapcart.carts": {
        "is_cart": ["thing"],
        "are_folk": ["thing"],
        "are_leaps": ["folk", "thing"],
        "speeds": ["cart", "folk", "speed", "leaps"],
        "leapers": ["cart", "folk", "speed", "leaps"],
        "places": ["cart", "folk", "timed", "hour"],
    },
    "leapcart.fastest": {
        "greatest": ["cart", "folk"],
        "slowest": ["cart", "folk"],
        "best_order": ["cart", "folk"],
        "all_speeds": ["cart", "folk"],
        "table": ["cart", "folk"],
        "shown": ["cart", "folk", "thing"],
    },
    "leapcart.wished": {
        "fewest_for": ["cart", "folk", "speed"],
        "to_rest": ["cart", "folk", "speed"],
    },
    "leapcart.unseen": {
        "heavy_by": ["cart", "folk", "name", "more"],
        "leap_by": ["cart", "folk", "name", "more"],
    },
}
METHODS = {
    "__init__": ["self", "cart", "folk"],
    "leap": ["self", "leaps"],
    "back": ["self"],
    "speed": ["self"],
    "still": ["self"],
    "aboard": ["self"],
    "leapers": ["self"],
    "__len__": ["self"],
    "__eq__": ["self", "other"],
}


class Interface(unittest.TestCase):
    def test_each_function_stands_in_its_file_with_its_arguments(self):
        for file, functions in LISTED.items():
            module = importlib.import_module(file)
            for name, arguments in functions.items():
                function = getattr(module, name)
                self.assertEqual(function.__module__, file)
                self.assertEqual(list(inspect.signature(function).parameters), arguments, name)

    def test_the_rail_defines_each_method_itself(self):
        rails = importlib.import_module("leapcart.rails")
        self.assertEqual(rails.Rail.__module__, "leapcart.rails")
        for name, arguments in METHODS.items():
            self.assertIn(name, vars(rails.Rail))
            self.assertEqual(list(inspect.signature(vars(rails.Rail)[name]).parameters), arguments, name)

    def test_the_rail_has_its_field_when_made(self):
        rails = importlib.import_module("leapcart.rails")
        self.assertIs(vars(rails.Rail(1, (("a", 1, 1),)))["busy"], False)


if __name__ == "__main__":
    unittest.main()
