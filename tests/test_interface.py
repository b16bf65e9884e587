"""The names and arguments of the interface, as they stand in the document."""

import importlib
import inspect
import unittest

INTERFACE = {
    "graphs": {"graph_of": ["statement"], "set_graph": ["statement", "switch", "on"],
               "is_yes": ["graph", "setting"], "is_graph": ["graph"]},
    "ways": {"how_many": ["statement", "count"], "way_at": ["statement", "count", "place"],
             "first_unlike": ["one", "other", "count"]},
    "notes": {"shown": ["statement"], "read": ["line"]},
}


class Interface(unittest.TestCase):
    def test_functions_and_their_arguments(self):
        for name, functions in INTERFACE.items():
            module = importlib.import_module("choicenet." + name)
            for function, arguments in functions.items():
                with self.subTest(function=function):
                    signature = inspect.signature(getattr(module, function))
                    self.assertEqual(list(signature.parameters), arguments)

    def test_errors(self):
        module = importlib.import_module("choicenet.errors")
        for name in ("NetError", "NoWay", "NoStatement"):
            self.assertTrue(inspect.isclass(getattr(module, name)))


if __name__ == "__main__":
    unittest.main()
