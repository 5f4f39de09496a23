"""The interface: each name stands in the file under which the document lists it, with its arguments."""

import ast
import importlib
import pathlib
import unittest

PACKAGE = pathlib.Path(__file__).resolve().parent.parent / "ramet"

FUNCTIONS = {
    "kinds": {"is_state": "value", "written_state": "i", "written_number": "state", "turned": "state quarters"},
    "yard": {"next_state": "state around"},
    "space": {
        "is_pattern": "value", "is_still": "pattern", "moved": "pattern dx dy", "turned_pattern": "pattern quarters",
        "union": "first second", "from_cells": "rows", "step": "pattern", "run": "pattern steps",
        "difference": "first second", "box": "pattern", "cells": "pattern", "rest": "pattern most",
    },
    "machine": {"equal_answers": "first second"},
    "written": {"text_of": "machine", "machine_of": "text"},
    "plane": {"state_bits": "machine", "plane": "machine", "run_plane": "terms state_bits outputs words"},
    "net": {"nodes": "net", "handed": "net most", "last_step": "net"},
    "layout": {"lay_out": "machine"},
    "feed": {"feed": "layout words", "due": "layout words", "drain": "layout pattern n"},
    "tape": {"is_tape": "value", "copies": "tape", "tape_line": "tape", "read_tape": "text"},
    "walker": {"meaning": "tape"},
    "describe": {"describe": "pattern", "times": "command n"},
    "body": {
        "body": "n", "machine": "tape", "parked": "tape", "built": "tape", "ring": "n", "road_of": "tape",
        "body_box": "tape", "room": "tape", "ring_of": "tape",
    },
    "arm": {"gives": "tape", "done": "tape", "rest_of": "tape"},
    "own": {"own": "tape", "born": "tape", "goods": "tape", "heir": "pattern"},
    "kin": {
        "apart": "first second", "is_barrier": "state", "moved_box": "box dx dy", "is_parent": "tape",
        "halted_cells": "tape halt", "rest_after": "tape halt",
    },
    "look": {"look": "families now time"},
    "mend": {"errand": "whole lost place", "repair": "now errand"},
}
METHODS = {
    ("engine", "Engine"): {
        "__init__": "self pattern", "advance": "self steps", "put": "self place state", "time": "self",
        "changes": "self", "settle": "self most", "pattern": "self", "at": "self place", "is_idle": "self",
    },
    ("machine", "Machine"): {
        "__init__": "self states inputs outputs rows", "row": "self state word", "run": "self words",
        "trace": "self words", "table": "self",
    },
    ("layout", "Layout"): {},
    ("walker", "Made"): {},
    ("families", "Families"): {
        "__init__": "self starts walls", "grow": "self until", "machines": "self", "tape": "self number",
        "line": "self number", "cells_of": "self number", "start": "self", "space": "self time", "is_quiet": "self time",
    },
    ("mend", "Errand"): {"__init__": "self tape corner steps"},
}
ATTRIBUTES = {
    ("machine", "Machine"): "states inputs outputs",
    ("layout", "Layout"): "pattern ins outs",
    ("walker", "Made"): "cells road steps lengths visits trail place direction",
    ("mend", "Errand"): "tape corner steps",
}
NUMBERS = {"tape": {"MOST_SYMBOLS": 400, "REACH": 200}, "kin": {"FAR": 50000, "MOST_KIN": 24}}
ERRORS = (
    "RametError", "NotWritten", "BadMachine", "BadWord", "BadText", "NotNet", "TwoGivers", "TooMany", "NotThere",
    "BadTape", "NoRoom", "InTheWay", "BadRing", "NotOwn", "NotStill", "Crowded", "Loaded", "BadWall", "NotQuiet",
    "NoSuchKin", "NotPart", "NotNetCell", "Touched",
)


def tree(name):
    return ast.parse((PACKAGE / f"{name}.py").read_text())


def functions_in(body):
    found = [node for node in body if isinstance(node, ast.FunctionDef)]
    return {node.name: " ".join(arg.arg for arg in node.args.args) for node in found}


class InterfaceTest(unittest.TestCase):
    def test_functions(self):
        for name, wanted in FUNCTIONS.items():
            found = functions_in(tree(name).body)
            for function, arguments in wanted.items():
                self.assertEqual(found.get(function), arguments, (name, function))

    def test_classes_and_their_own_methods(self):
        for (name, wanted_class), wanted in METHODS.items():
            classes = {node.name: node for node in tree(name).body if isinstance(node, ast.ClassDef)}
            found = functions_in(classes[wanted_class].body)
            for method, arguments in wanted.items():
                self.assertEqual(found.get(method), arguments, (wanted_class, method))

    def test_attributes_are_set_when_an_object_is_created(self):
        for (name, wanted_class), wanted in ATTRIBUTES.items():
            classes = {node.name: node for node in tree(name).body if isinstance(node, ast.ClassDef)}
            methods = {node.name: node for node in classes[wanted_class].body if isinstance(node, ast.FunctionDef)}
            stored = [node for node in ast.walk(methods["__init__"]) if isinstance(node, ast.Attribute)]
            found = [node.attr for node in stored if isinstance(node.ctx, ast.Store)]
            self.assertTrue(set(wanted.split(" ")) <= set(found), wanted_class)

    def test_numbers(self):
        for name, wanted in NUMBERS.items():
            module = importlib.import_module(f"ramet.{name}")
            for number, value in wanted.items():
                self.assertEqual(getattr(module, number), value)

    def test_errors(self):
        classes = [node.name for node in tree("errors").body if isinstance(node, ast.ClassDef)]
        self.assertTrue(set(ERRORS) <= set(classes))

    def test_each_file_can_be_imported_alone(self):
        for path in sorted(PACKAGE.glob("*.py")):
            if path.stem != "__main__":
                importlib.import_module(f"ramet.{path.stem}" if path.stem != "__init__" else "ramet")


if __name__ == "__main__":
    unittest.main()
