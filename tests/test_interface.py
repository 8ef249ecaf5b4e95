"""The interface: each name is defined in the file under which the document lists it."""

import importlib
import unittest

LISTED = {
    "quantities": "make_quantity operate minus negation call",
    "formulas": "is_name read_formula names_in",
    "values": "Values evaluate whole_number",
    "grains": "grain_count middle_of grain_at corners_of neighbour_at facet_corners direction_of offset_of",
    "solids": "Solid empty whole",
    "sketches": "Sketch",
}


class Interface(unittest.TestCase):
    def test_where_names_are_defined(self):
        for module, names in LISTED.items():
            home = importlib.import_module("partloft." + module)
            for name in names.split():
                with self.subTest(module + "." + name):
                    self.assertEqual(getattr(home, name).__module__, "partloft." + module)

    def test_the_methods_of_values(self):
        from partloft.values import Values
        for name in ("__init__", "define", "add_configuration", "choose", "chosen", "configuration_count", "names",
                     "formula", "value"):
            self.assertIn(name, vars(Values))


if __name__ == "__main__":
    unittest.main()
