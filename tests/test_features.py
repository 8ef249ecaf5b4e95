"""Point 90: the forms of the kinds of features."""

import unittest

from helping import refusal
from partloft.bodies import field_count
from partloft.features import kind_form

FORMS = {
    "block": ("none", 6, True), "wedge": ("none", 7, True), "hole": ("axis", 5, True), "step": ("axis", 7, True),
    "sink": ("axis", 5, True), "prism": ("sketch", 2, True), "taper": ("sketch", 2, True), "turn": ("sketch", 1, True),
    "wall": ("sketch", 3, True), "row": ("feature", 4, True), "ring": ("feature", 4, True),
    "mirror": ("feature", 2, True), "shift": ("none", 3, False), "way": ("none", 1, False), "grow": ("none", 1, False),
    "shrink": ("none", 1, False), "shell": ("none", 1, False), "split": ("none", 4, False), "twin": ("none", 2, False),
    "lump": ("none", 0, False), "fill": ("none", 0, False), "clean": ("none", 1, False), "pull": ("none", 2, False),
}


class Kinds(unittest.TestCase):
    def test_all_kinds(self):
        for kind, form in FORMS.items():
            self.assertEqual(kind_form(kind), form)
            self.assertIsInstance(kind_form(kind), tuple)

    def test_bodies_have_as_many_fields(self):
        for kind in ("block", "wedge", "hole", "step", "sink", "prism", "taper", "turn", "wall"):
            self.assertEqual(kind_form(kind)[1], field_count(kind))

    def test_other_kinds(self):
        for kind in ("", "blocks", "Block", " block", "unite", "cut"):
            self.assertEqual(refusal(kind_form, kind), ("InvalidFeature", "kind"))


if __name__ == "__main__":
    unittest.main()
