"""Tests of the names that the document's interface lists: where each stands, and what it takes."""

import importlib
import inspect
import unittest

FUNCTIONS = {
    "forms": {"places_of": ["body"], "at_place": ["body", "place"]},
    "kinds": {"is_kind": ["thing"], "filled": ["kind", "fills"], "fits": ["kinds", "others"]},
    "judging": {"judged": ["program"], "marked": ["program", "number"]},
    "running": {"is_of": ["value", "kind"], "run": ["program", "number", "values"]},
}


class InterfaceTest(unittest.TestCase):
    def test_each_function_is_defined_in_its_file(self):
        for file, functions in FUNCTIONS.items():
            for name, takes in functions.items():
                with self.subTest(file=file, name=name):
                    found = getattr(importlib.import_module("fieldrest." + file), name)
                    self.assertTrue(inspect.isfunction(found))
                    self.assertEqual(found.__module__, "fieldrest." + file)
                    self.assertEqual(found.__name__, name)
                    self.assertEqual(list(inspect.signature(found).parameters), takes)


if __name__ == "__main__":
    unittest.main()
