"""The errors of partloft.refusals: their base class, arguments and attributes."""

import inspect
import unittest

from partloft import refusals
from partloft.errors import LoftError

FORMS = {
    "InvalidSize": {"size": 7},
    "NoSuchGrain": {"grain": -1},
    "InvalidWay": {"way": 48},
    "InvalidAmount": {"amount": 9},
    "InvalidRadius": {"radius": 4},
    "NoSuchPlace": {"place": (0, 0, 7)},
    "NoStep": {"place": (0, 0, 0), "other": (1, 1, 0)},
    "NoSuchFeature": {"feature": 3},
    "InvalidFeature": {"word": "kind"},
    "InvalidField": {"field": 2},
    "FeatureUsed": {"feature": 5},
    "InvalidOrder": {"place": 8},
    "NoSuchSketch": {"sketch": 6},
}


class RefusalForms(unittest.TestCase):
    def test_each_error_keeps_what_it_is_created_with(self):
        for name, attributes in FORMS.items():
            with self.subTest(name):
                error = getattr(refusals, name)(*attributes.values())
                self.assertEqual(vars(error), attributes)
                self.assertIsInstance(error, LoftError)
                self.assertIsInstance(str(error), str)

    def test_no_grains_has_a_message(self):
        error = refusals.NoGrains("the solid is empty")
        self.assertIsInstance(error, LoftError)
        self.assertEqual(str(error), "the solid is empty")

    def test_every_class_is_defined_in_its_file(self):
        there = {name for name, one in inspect.getmembers(refusals, inspect.isclass)
                 if one.__module__ == "partloft.refusals"}
        self.assertLessEqual(set(FORMS) | {"NoGrains"}, there)


if __name__ == "__main__":
    unittest.main()
