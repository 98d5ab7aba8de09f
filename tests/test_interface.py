"""What the interface lists stands under its name, in its file, with its arguments."""

import importlib
import inspect
import unittest

FUNCTIONS = {
    "trees": {"is_name": 1, "check_tree": 1, "count_nodes": 1, "depth_of": 1},
    "writer": {"expression_text": 1, "program_text": 1},
    "reader": {"read_program": 1, "read_expression": 1},
    "kinds": {"conforms": 3, "relation": 1},
    "checks": {"check_program": 1, "returns": 1},
    "code": {"is_instruction": 1, "need": 1, "effect": 1, "heights": 3},
    "compiler": {"compiled_block": 2, "local_names": 2, "compile_program": 1, "row_of": 3, "maker_of": 2},
    "plain": {"begin": 1, "ready": 1, "step": 3, "run": 3, "finish": 3},
    "micro": {"first_frame": 4, "first_fields": 3, "pushed": 2, "micro": 5},
    "trim": {"references": 1, "reached": 1, "trim": 1},
    "bundles": {"is_bundle": 1, "bundle_text": 1, "read_bundle": 1},
    "letters": {"is_working": 1, "is_on_the_way": 1, "object_of": 1, "count_of": 1, "with_count": 2},
    "finding": {"home_of": 2},
    "moves": {"goes_with": 3, "lifted": 1},
    "picture": {"under_way": 1, "picture": 1, "look": 1, "replayed": 1},
    "gather": {"report": 1, "agree": 1, "unheld": 1, "start_round": 1, "control": 3},
    "settle": {"is_quiet": 1, "settle": 2, "balance": 1},
    "names": {"process_text": 1, "object_text": 1, "read_process": 1, "read_object": 1},
    "lines": {"read_command": 1},
    "desk": {"run_script": 1},
}
# How many arguments the class and its methods take, themselves not counted.
METHODS = {
    ("post", "Post"): (1, {"give": 2, "take": 1, "is_taken": 2, "taken": 1, "next_number": 1, "outbox": 0, "answers": 0,
                           "image": 0, "copy": 0}),
    ("finding", "Finder"): (2, {"hear": 3, "mark": 1, "forget": 1, "way": 3, "park": 1, "unpark": 1, "parked": 0, "image": 0,
                                "copy": 0}),
    ("place", "Place"): (3, {"put": 1, "bundles": 0, "ended": 0, "parked": 0, "outbox": 0, "has_taken": 2, "ready": 0, "me": 0,
                             "places": 0, "stopped": 0, "stop": 1, "notes": 0, "note": 1, "work": 1, "arrive": 1, "take": 1,
                             "give": 2, "announce": 3, "again": 1, "carry": 2, "drop": 1, "given": 1, "taken": 1, "burst": 0,
                             "prints": 0, "settle": 0, "answers": 0, "state": 0, "copy": 0}),
    ("world", "World"): (2, {"do": 1, "play": 1, "can": 1, "present": 1, "kept": 1, "places": 0, "image": 0, "air": 0, "order": 0,
                             "prints": 0, "copy": 0}),
}
CLASSES = {"errors": ("PortError", "NotAllowed", "TooLarge", "Missing", "BadForm", "BadKind")}
CONSTANTS = {"trees": ("MAX_NUMBER", "MAX_PARTS", "MAX_NODES", "MAX_DEPTH", "WORDS"), "code": ("PLAIN",),
             "letters": ("WORKING", "ON_THE_WAY"), "world": ("MAX_PLACES",), "settle": ("MAX_BURST", "MAX_ROUNDS")}


class Interface(unittest.TestCase):
    def test_functions(self):
        for name, functions in FUNCTIONS.items():
            module = importlib.import_module(f"portage.{name}")
            for function, many in functions.items():
                found = getattr(module, function)
                self.assertTrue(inspect.isfunction(found))
                self.assertEqual(found.__module__, module.__name__)
                self.assertEqual(len(inspect.signature(found).parameters), many, function)

    def test_classes(self):
        for name, classes in CLASSES.items():
            module = importlib.import_module(f"portage.{name}")
            for one in classes:
                self.assertTrue(inspect.isclass(getattr(module, one)))
                self.assertEqual(getattr(module, one).__module__, module.__name__)

    def test_methods(self):
        for (name, one), (many, methods) in METHODS.items():
            found = getattr(importlib.import_module(f"portage.{name}"), one)
            self.assertEqual(found.__module__, f"portage.{name}")
            self.assertEqual(len(inspect.signature(found).parameters), many, one)
            for method, arguments in methods.items():
                self.assertTrue(inspect.isfunction(vars(found)[method]))
                self.assertEqual(len(inspect.signature(vars(found)[method]).parameters), arguments + 1, (one, method))

    def test_constants(self):
        for name, constants in CONSTANTS.items():
            for constant in constants:
                self.assertTrue(hasattr(importlib.import_module(f"portage.{name}"), constant))


if __name__ == "__main__":
    unittest.main()
