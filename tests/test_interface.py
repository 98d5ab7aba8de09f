"""What the interface lists stands under its name, in its file, with its arguments."""

import importlib
import inspect
import unittest

FUNCTIONS = {
    "trees": {"is_name": 1, "check_tree": 1, "count_nodes": 1, "depth_of": 1},
    "writer": {"expression_text": 1, "program_text": 1},
    "reader": {"read_program": 1, "read_expression": 1},
    "kinds": {"conforms": 3, "relation": 1},
    "checks": {"check_program": 1, "returns": 1},
    "code": {"is_instruction": 1, "need": 1, "effect": 1, "heights": 3},
    "compiler": {"compiled_block": 2, "local_names": 2, "compile_program": 1, "row_of": 3, "maker_of": 2},
}
CLASSES = {"errors": ("PortError", "NotAllowed", "TooLarge", "Missing", "BadForm", "BadKind")}
CONSTANTS = {"trees": ("MAX_NUMBER", "MAX_PARTS", "MAX_NODES", "MAX_DEPTH", "WORDS"), "code": ("PLAIN",)}


class Interface(unittest.TestCase):
    def test_functions(self):
        for name, functions in FUNCTIONS.items():
            module = importlib.import_module(f"portage.{name}")
            for function, many in functions.items():
                found = getattr(module, function)
                self.assertTrue(inspect.isfunction(found))
                self.assertEqual(found.__module__, module.__name__)
                self.assertEqual(len(inspect.signature(found).parameters), many, function)

    def test_classes(self):
        for name, classes in CLASSES.items():
            module = importlib.import_module(f"portage.{name}")
            for one in classes:
                self.assertTrue(inspect.isclass(getattr(module, one)))
                self.assertEqual(getattr(module, one).__module__, module.__name__)

    def test_constants(self):
        for name, constants in CONSTANTS.items():
            for constant in constants:
                self.assertTrue(hasattr(importlib.import_module(f"portage.{name}"), constant))


if __name__ == "__main__":
    unittest.main()
