"""Features: their kinds, and what is asked of their fields."""

from partloft.errors import InvalidFormula
from partloft.formulas import read_formula
from partloft.refusals import InvalidFeature

# For each kind: what its of is, the number of its fields, and whether it has a tool.
KINDS = {
    "block": ("none", 6, True), "wedge": ("none", 7, True),
    "hole": ("axis", 5, True), "step": ("axis", 7, True), "sink": ("axis", 5, True),
    "prism": ("sketch", 2, True), "taper": ("sketch", 2, True),
    "turn": ("sketch", 1, True), "wall": ("sketch", 3, True),
    "row": ("feature", 4, True), "ring": ("feature", 4, True), "mirror": ("feature", 2, True),
    "shift": ("none", 3, False), "way": ("none", 1, False),
    "grow": ("none", 1, False), "shrink": ("none", 1, False), "shell": ("none", 1, False),
    "split": ("none", 4, False), "twin": ("none", 2, False),
    "lump": ("none", 0, False), "fill": ("none", 0, False), "clean": ("none", 1, False),
    "pull": ("none", 2, False),
}

TOOL_OPS = ("unite", "less", "common")


class Feature:
    """A feature as it was told, and whether it is suppressed."""

    def __init__(self, kind, op, of, fields, suppressed):
        self.kind = kind
        self.op = op
        self.of = of
        self.fields = tuple(fields)
        self.suppressed = suppressed

    def source(self):
        """The number of the feature that its tool is made from, or None."""
        return self.of if kind_form(self.kind)[0] == "feature" else None

    def sketch_number(self):
        """The number of the sketch that its tool is made from, or None."""
        return self.of if kind_form(self.kind)[0] == "sketch" else None


def kind_form(kind):
    """What the of of a kind is, the number of its fields, and whether it has a tool."""
    if kind not in KINDS:
        raise InvalidFeature("kind")
    return KINDS[kind]


def ops_of(kind):
    """The ops that a feature of a kind can have."""
    return TOOL_OPS if kind_form(kind)[2] else ("",)


def is_name_field(kind, k):
    """True if a field is the name of a face instead of a formula."""
    return kind == "pull" and k == 0


def is_field(kind, k, item):
    """True if an item is what a field of a kind can have."""
    return _is_face_name(item) if is_name_field(kind, k) else _is_formula(item)


def _is_face_name(item):
    if not isinstance(item, tuple) or len(item) != 3:
        return False
    return all([_is_count(number) for number in item])


def _is_count(number):
    """True for an integer from 0 on; True and False are none."""
    return isinstance(number, int) and not isinstance(number, bool) and number >= 0


def _is_formula(item):
    if not isinstance(item, str):
        return False
    try:
        read_formula(item)
    except InvalidFormula:
        return False
    return True
