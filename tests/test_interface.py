"""The interface: each name is defined in the file under which the document lists it, with its arguments."""

import ast
import importlib
import inspect
import pathlib
import unittest

import partloft

# The functions of each module with their arguments.
FUNCTIONS = {
    "quantities": {"make_quantity": "numerator denominator kind", "operate": "sign left right", "minus": "quantity",
                   "negation": "quantity", "call": "function arguments"},
    "formulas": {"is_name": "word", "read_formula": "text", "names_in": "text"},
    "values": {"evaluate": "expression values", "whole_number": "expression values"},
    "grains": {"grain_count": "size", "middle_of": "size grain", "grain_at": "size x y z", "corners_of": "size grain",
               "neighbour_at": "size grain facet", "facet_corners": "size grain facet", "direction_of": "size grain facet",
               "offset_of": "size grain facet"},
    "solids": {"empty": "size", "whole": "size"},
    "solving": {"solve": "sketch values", "conflict": "sketch values", "is_redundant": "sketch values constraint",
                "equations": "sketch values constraint"},
    "profiles": {"profile": "sketch values size", "loops": "sketch values size", "region": "sketch values size",
                 "is_straight": "sketch values size", "disc_bound": "radius"},
    "bodies": {"field_count": "kind", "body_of": "size kind fields sketch values axis"},
    "repeating": {"row_of": "body count dx dy dz", "ring_of": "body axis p q count", "mirror_of": "body axis p"},
    "faces": {"boundary_of": "solid", "faces_of": "solid", "edge_counts": "solid", "signed_volume": "solid", "is_closed": "solid",
              "direction_code": "direction"},
    "measures": {"area_of": "solid", "centre_of": "solid", "clearance": "one other", "extent_of": "solid"},
    "features": {"kind_form": "kind"},
    "tools": {"in_disc": "radius du dv", "taken_at": "size radius place", "taken_on": "size radius place other"},
    "papers": {"cut_paper": "part radius", "closed_paper": "solid", "name_paper": "solid makers face"},
    "checking": {"check_cut": "part radius stock paper", "check_closed": "solid paper", "check_name": "solid makers name paper"},
    "views": {"shown": "solid axis above", "strokes": "size picture", "section": "solid axis at"},
    "sheets": {"write_solid": "solid", "read_solid": "text"},
    "records": {"write_values": "values", "write_sketch": "sketch", "read_values": "text", "read_sketch": "text"},
}

# The classes of each module with the methods that they define themselves, and their arguments.
CLASSES = {
    ("values", "Values"): {"__init__": "", "define": "name text configuration", "add_configuration": "base", "choose": "configuration",
                           "chosen": "", "configuration_count": "", "names": "", "formula": "name configuration", "value": "name"},
    ("solids", "Solid"): {"__init__": "size grains", "__eq__": "other", "grains": "", "has": "grain", "many": "", "united": "other",
                          "less": "other", "common": "other", "rest": "", "moved": "dx dy dz", "turned": "way", "grown": "t",
                          "shrunk": "t", "lumps": "", "hollows": ""},
    ("sketches", "Sketch"): {"__init__": "axis offset", "axis": "", "offset": "", "add_point": "u v", "move_point": "point u v",
                             "add_line": "first second", "add_disc": "point text", "add_constraint": "kind a b c text",
                             "drop_line": "line", "drop_disc": "disc", "drop_constraint": "constraint", "points": "", "lines": "",
                             "discs": "", "constraints": "", "copy": ""},
    ("solving", "Solution"): {"__init__": "state places taken"},
    ("histories", "History"): {"__init__": "size", "value_table": "", "add_sketch": "axis offset", "sketch": "number", "sketch_count": "",
                               "add_feature": "kind op of fields", "set_field": "feature k item", "suppress": "feature on",
                               "put": "feature place", "drop": "feature", "order": "", "feature": "number", "is_suppressed": "feature",
                               "rebuild": "", "solid": "", "solid_after": "feature", "state": "feature", "reason": "feature",
                               "tool": "feature", "makers": "", "names": "", "face_named": "name", "parts": "", "take_over": "parts"},
    ("cutting", "Cutter"): {"__init__": "part radius", "is_free": "place", "is_free_step": "place other", "reached": "", "tour": "",
                            "taken": "places", "left": "stock", "gouge": "places"},
    ("pasts", "Past"): {"__init__": "text limit", "present": "", "add": "text", "back": "", "forward": "", "before": "", "after": ""},
}

LIBRARY = {"heapq", "math", "itertools", "collections"}


class Interface(unittest.TestCase):
    def test_functions(self):
        for module, names in FUNCTIONS.items():
            home = importlib.import_module("partloft." + module)
            for name, arguments in names.items():
                with self.subTest(module + "." + name):
                    function = getattr(home, name)
                    self.assertTrue(inspect.isfunction(function))
                    self.assertEqual(function.__module__, "partloft." + module)
                    self.assertEqual(list(inspect.signature(function).parameters), arguments.split())

    def test_classes(self):
        for (module, name), methods in CLASSES.items():
            home = getattr(importlib.import_module("partloft." + module), name)
            self.assertEqual(home.__module__, "partloft." + module)
            for method, arguments in methods.items():
                with self.subTest(name + "." + method):
                    self.assertIn(method, vars(home))
                    self.assertEqual(list(inspect.signature(vars(home)[method]).parameters)[1:], arguments.split())

    def test_the_only_default_value(self):
        from partloft.values import Values
        self.assertEqual(inspect.signature(Values.define).parameters["configuration"].default, 0)

    def test_the_attributes_of_a_solution(self):
        from partloft.solving import Solution
        solution = Solution(1, ((2, 3),), 4)
        self.assertEqual((solution.state, solution.places, solution.taken), (1, ((2, 3),), 4))

    def test_the_package_is_one_folder(self):
        folder = pathlib.Path(partloft.__file__).parent
        self.assertEqual({path.suffix for path in folder.iterdir() if path.name != "__pycache__"}, {".py"})
        self.assertFalse([path for path in folder.iterdir() if path.name.startswith("test")])


class Point3(unittest.TestCase):
    """No clock, no random numbers, no files and no floating-point numbers."""

    def test_what_the_package_is_made_of(self):
        files = sorted(pathlib.Path(partloft.__file__).parent.glob("*.py"))
        self.assertTrue(files)
        for path in files:
            for node in ast.walk(ast.parse(path.read_text())):
                with self.subTest(path.name):
                    self.assertNotIsInstance(node, (ast.Import, ast.Div))
                    if isinstance(node, ast.ImportFrom):
                        self.assertTrue(node.module.startswith("partloft.") or node.module in LIBRARY)
                    if isinstance(node, ast.Constant):
                        self.assertNotIsInstance(node.value, (float, complex))
                    if isinstance(node, ast.Name):
                        self.assertNotIn(node.id, ("float", "open", "input", "print", "round", "hash", "id"))


if __name__ == "__main__":
    unittest.main()
