"""The interface: each name is defined where it is listed, with its arguments."""

import ast
import importlib
import inspect
import unittest
from pathlib import Path

FOLDER = Path(__file__).resolve().parent.parent / "drawloom"

FUNCTIONS = {
    "words": {
        "wrapped": ["number"], "binary": ["op", "a", "b"], "unary": ["op", "a"],
        "neutral": ["op"], "fold": ["op", "words"],
    },
    "kernels": {
        "check_kernel": ["value"], "check_launch": ["kernel", "value"], "statements": ["kernel"],
    },
    "meaning": {"run": ["kernel", "launch", "turns"], "is_free": ["kernel", "launch"]},
    "graphs": {
        "check_graph": ["value"], "leads_to": ["graph"], "comes_from": ["graph"],
        "run_graph": ["graph", "launch", "turns", "most"],
    },
    "lowering": {"lowered": ["kernel"]},
    "dominators": {
        "dominators": ["graph"], "postdominators": ["graph"], "dominates": ["graph", "a", "b"],
        "frontiers": ["graph"], "region": ["graph", "b"],
    },
    "forming": {"is_in_form": ["graph"], "in_form": ["graph"], "out_of_form": ["graph"]},
    "improving": {"is_improved": ["graph"], "improved": ["graph"]},
    "places": {
        "live_into": ["graph"], "clashes": ["graph"], "is_right": ["graph", "places", "k"],
        "assigned": ["graph", "k"],
    },
    "codes": {"check_code": ["value"], "run_code": ["code", "launch", "turns", "most"]},
    "emitting": {"emitted": ["graph", "places"], "compiled": ["kernel", "k"]},
    "lanes": {
        "first_lane": ["code"], "request": ["code", "lane"], "behind": ["code", "launch", "thread", "lane", "word"],
    },
    "machines": {
        "restored": ["code", "launch", "shape", "picture"], "run_machine": ["code", "launch", "shape", "turns"],
    },
}
WARP = {
    "__init__": ["code", "launch", "block", "first", "count"], "groups": [], "asks": ["group"],
    "step": ["group", "words"], "waits": [], "ended": [], "lanes": [], "release": ["words"], "copy": [],
}
CLASSES = {
    "errors": {
        "DrawloomError": {}, "BadKernel": {}, "BadLaunch": {}, "BadGraph": {}, "NotInForm": {},
        "NotReady": {}, "TooLarge": {}, "BadCode": {},
    },
    "meaning": {
        "World": {
            "__init__": ["kernel", "launch"], "ready": [], "step": ["thread"], "end": [], "memory": [],
            "races": [], "steps": [], "copy": [],
        },
    },
    "warps": {"Warp": {**WARP, "entries": []}, "FreeWarp": WARP},
    "buffers": {
        "Memory": {
            "__init__": ["code", "launch", "room"], "load": ["thread", "array", "cell"],
            "store": ["thread", "array", "cell", "word"], "atomic": ["thread", "op", "array", "cell", "word"],
            "drain": ["thread"], "fence": ["thread"], "pending": [], "spot": ["thread", "array", "cell"], "buffers": [],
            "copy": [],
        },
    },
    "blocks": {
        "Block": {
            "__init__": ["code", "launch", "memory", "block", "width", "free"], "warps": [], "groups": ["warp"],
            "step": ["warp", "group"], "phase": [], "status": [], "lanes": [], "copy": ["memory"],
        },
    },
    "machines": {
        "Machine": {
            "__init__": ["code", "launch", "shape"], "actions": [], "act": ["index"], "end": [], "memory": [], "places": [],
            "accesses": [], "races": [], "picture": [], "copy": [],
        },
    },
}
TUPLES = {"words": ("BINARY", "UNARY", "FOLDING")}


def definitions(module, kind):
    """Return the definitions at the top of a file, by their names."""
    tree = ast.parse((FOLDER / (module + ".py")).read_text())
    return {node.name: node for node in tree.body if isinstance(node, kind)}


class InterfaceTest(unittest.TestCase):
    def test_functions(self):
        for module, functions in FUNCTIONS.items():
            defined = definitions(module, ast.FunctionDef)
            found = importlib.import_module("drawloom." + module)
            for name, arguments in functions.items():
                self.assertIn(name, defined)
                taken = inspect.signature(getattr(found, name)).parameters
                self.assertEqual(list(taken), arguments, name)

    def test_classes_and_their_methods(self):
        for module, classes in CLASSES.items():
            defined = definitions(module, ast.ClassDef)
            found = importlib.import_module("drawloom." + module)
            for name, methods in classes.items():
                self.assertIn(name, defined)
                for method, arguments in methods.items():
                    taken = inspect.signature(vars(getattr(found, name))[method]).parameters
                    self.assertEqual(list(taken), ["self"] + arguments, (name, method))

    def test_entries_of_warps_with_masks_alone(self):
        found = importlib.import_module("drawloom.warps")
        self.assertFalse(hasattr(found.FreeWarp, "entries"))

    def test_the_number_of_instructions_of_a_lane(self):
        self.assertEqual(importlib.import_module("drawloom.machines").MOST_STEPS, 20000)

    def test_tuples(self):
        for module, names in TUPLES.items():
            found = importlib.import_module("drawloom." + module)
            for name in names:
                self.assertIs(type(getattr(found, name)), tuple, name)


if __name__ == "__main__":
    unittest.main()
