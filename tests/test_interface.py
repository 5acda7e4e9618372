"""The interface: its names, arguments and files are as the document lists them."""

import importlib
import inspect
import unittest

LISTED = {
    "leapcart.carts": {
        "is_cart": ["thing"],
        "are_folk": ["thing"],
        "are_leaps": ["folk", "thing"],
        "speeds": ["cart", "folk", "speed", "leaps"],
        "leapers": ["cart", "folk", "speed", "leaps"],
        "places": ["cart", "folk", "timed", "hour"],
    },
    "leapcart.fastest": {
        "greatest": ["cart", "folk"],
        "slowest": ["cart", "folk"],
        "best_order": ["cart", "folk"],
        "all_speeds": ["cart", "folk"],
        "table": ["cart", "folk"],
        "shown": ["cart", "folk", "thing"],
    },
}


class Interface(unittest.TestCase):
    def test_each_function_stands_in_its_file_with_its_arguments(self):
        for file, functions in LISTED.items():
            module = importlib.import_module(file)
            for name, arguments in functions.items():
                function = getattr(module, name)
                self.assertEqual(function.__module__, file)
                self.assertEqual(list(inspect.signature(function).parameters), arguments, name)


if __name__ == "__main__":
    unittest.main()
