"""The errors of the interface: their base class, arguments and attributes."""

import inspect
import unittest

from partloft import errors

FORMS = {
    "InvalidFormula": {"place": 4},
    "Fault": {"word": "zero"},
    "InvalidName": {"name": "mm"},
    "NoSuchValue": {"name": "a"},
    "NoSuchConfiguration": {"number": 3},
    "TooMany": {"what": "values"},
    "NoSuchPart": {"what": "line", "number": 7},
    "InvalidSketch": {"what": "axis"},
    "NotSolved": {"state": 3},
    "FieldFault": {"field": 2},
    "ProfileFault": {"profile": 5},
    "InvalidSheet": {"line": 9},
}


class ErrorForms(unittest.TestCase):
    def test_each_error_keeps_what_it_is_created_with(self):
        for name, attributes in FORMS.items():
            with self.subTest(name):
                error = getattr(errors, name)(*attributes.values())
                self.assertEqual(vars(error), attributes)
                self.assertIsInstance(error, errors.LoftError)

    def test_the_base_class_is_a_value_error(self):
        self.assertTrue(issubclass(errors.LoftError, ValueError))
        self.assertIs(errors.LoftError.__base__, ValueError)

    def test_every_class_is_defined_in_its_file(self):
        for name in list(FORMS) + ["LoftError"]:
            self.assertEqual(getattr(errors, name).__module__, "partloft.errors")
        there = {name for name, _ in inspect.getmembers(errors, inspect.isclass)}
        self.assertLessEqual(set(FORMS) | {"LoftError"}, there)


if __name__ == "__main__":
    unittest.main()
