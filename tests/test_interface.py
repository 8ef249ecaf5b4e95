"""The interface: each name is defined in the file under which the document lists it."""

import ast
import importlib
import pathlib
import unittest

import partloft

LISTED = {
    "quantities": "make_quantity operate minus negation call",
    "formulas": "is_name read_formula names_in",
    "values": "Values evaluate whole_number",
    "grains": "grain_count middle_of grain_at corners_of neighbour_at facet_corners direction_of offset_of",
    "solids": "Solid empty whole",
    "sketches": "Sketch",
    "solving": "Solution solve conflict is_redundant equations",
    "profiles": "profile loops region is_straight disc_bound",
    "bodies": "field_count body_of",
    "repeating": "row_of ring_of mirror_of",
    "faces": "boundary_of faces_of edge_counts signed_volume is_closed direction_code",
    "measures": "area_of centre_of clearance extent_of",
    "features": "kind_form",
    "histories": "History",
}


class Interface(unittest.TestCase):
    def test_where_names_are_defined(self):
        for module, names in LISTED.items():
            home = importlib.import_module("partloft." + module)
            for name in names.split():
                with self.subTest(module + "." + name):
                    self.assertEqual(getattr(home, name).__module__, "partloft." + module)

    def test_the_attributes_of_a_solution(self):
        from partloft.solving import Solution
        self.assertEqual(sorted(vars(Solution(0, (), 0))), ["places", "state", "taken"])

    def test_the_methods_of_values(self):
        from partloft.values import Values
        for name in ("__init__", "define", "add_configuration", "choose", "chosen", "configuration_count", "names",
                     "formula", "value"):
            self.assertIn(name, vars(Values))


class Point3(unittest.TestCase):
    """No clock, no random numbers, no files and no floating-point numbers."""

    def test_what_the_package_is_made_of(self):
        files = sorted(pathlib.Path(partloft.__file__).parent.glob("*.py"))
        self.assertGreater(len(files), 20)
        for path in files:
            for node in ast.walk(ast.parse(path.read_text())):
                with self.subTest(path.name):
                    self.assertNotIsInstance(node, (ast.Import, ast.Div))
                    if isinstance(node, ast.ImportFrom):
                        told = {name.name for name in node.names}
                        self.assertTrue(node.module.startswith("partloft.") or (node.module, told) == ("math", {"gcd"}))
                    if isinstance(node, ast.Constant):
                        self.assertNotIsInstance(node.value, (float, complex))
                    if isinstance(node, ast.Name):
                        self.assertNotIn(node.id, ("float", "open", "input", "print", "round", "hash", "id"))


if __name__ == "__main__":
    unittest.main()
