"""Sketches: points, lines, discs and constraints that lie across an axis."""

from partloft.errors import InvalidSketch, NoSuchPart, TooMany
from partloft.formulas import read_formula

LARGEST_OFFSET = 6
LARGEST_PLACE = 200
KINDS = 24

# The kinds of constraints below this one have a formula.
FIRST_WITHOUT_FORMULA = 6
# The kinds of constraints from this one on are about lines.
FIRST_ABOUT_LINES = 17

# How many of each may ever be added.
BOUNDS = {"points": 12, "lines": 24, "discs": 6, "constraints": 32}


class Sketch:
    """What is drawn across an axis at an offset, and the constraints on it."""

    def __init__(self, axis, offset):
        if not 0 <= axis <= 2:
            raise InvalidSketch("axis")
        if not 0 <= offset <= LARGEST_OFFSET:
            raise InvalidSketch("offset")
        self._axis = axis
        self._offset = offset
        self._points = []
        self._lines = {}
        self._discs = {}
        self._constraints = {}
        # How many were ever added: what is dropped still counts for the bounds.
        self._added = {"points": 0, "lines": 0, "discs": 0, "constraints": 0}

    def axis(self):
        """The axis across which the sketch lies."""
        return self._axis

    def offset(self):
        """The offset at which the sketch lies."""
        return self._offset

    def add_point(self, u, v):
        """The number of a new point that is drawn at a place."""
        _check_place(u, v)
        number = self._new_number("points")
        self._points.append((u, v))
        return number

    def move_point(self, point, u, v):
        """Draws a point elsewhere."""
        self._check_point(point)
        _check_place(u, v)
        self._points[point] = (u, v)

    def add_line(self, first, second):
        """The number of a new line between two points."""
        self._check_point(first)
        self._check_point(second)
        if first == second:
            raise InvalidSketch("line")
        number = self._new_number("lines")
        self._lines[number] = (first, second)
        return number

    def add_disc(self, point, text):
        """The number of a new disc about a point, with a formula."""
        self._check_point(point)
        read_formula(text)
        number = self._new_number("discs")
        self._discs[number] = (point, text)
        return number

    def add_constraint(self, kind, a, b, c, text):
        """The number of a new constraint."""
        if not 0 <= kind < KINDS:
            raise InvalidSketch("kind")
        parts = [a, b, c][:_part_count(kind)]
        for part in parts:
            self._check_part(kind, part)
        if _has_formula(kind):
            read_formula(text)
        number = self._new_number("constraints")
        kept = parts + [0, 0]
        self._constraints[number] = (kind, kept[0], kept[1], kept[2], text if _has_formula(kind) else "")
        return number

    def drop_line(self, line):
        """Takes a line out, if no constraint is about it."""
        if line not in self._lines:
            raise NoSuchPart("line", line)
        for row in self._constraints.values():
            if _is_about_lines(row[0]) and line in (row[1], row[2]):
                raise InvalidSketch("line")
        del self._lines[line]

    def drop_disc(self, disc):
        """Takes a disc out."""
        if disc not in self._discs:
            raise NoSuchPart("disc", disc)
        del self._discs[disc]

    def drop_constraint(self, constraint):
        """Takes a constraint out."""
        if constraint not in self._constraints:
            raise NoSuchPart("constraint", constraint)
        del self._constraints[constraint]

    def points(self):
        """The list of the drawn places (u, v)."""
        return list(self._points)

    def lines(self):
        """A dict from numbers to (first, second)."""
        return dict(self._lines)

    def discs(self):
        """A dict from numbers to (point, text)."""
        return dict(self._discs)

    def constraints(self):
        """A dict from numbers to (kind, a, b, c, text)."""
        return dict(self._constraints)

    def added(self):
        """How many lines, discs and constraints were ever added, those that were dropped included."""
        return (self._added["lines"], self._added["discs"], self._added["constraints"])

    def copy(self):
        """A sketch with the same parts and numbers."""
        twin = Sketch(self._axis, self._offset)
        twin._points = list(self._points)
        twin._lines = dict(self._lines)
        twin._discs = dict(self._discs)
        twin._constraints = dict(self._constraints)
        twin._added = dict(self._added)
        return twin

    def _new_number(self, what):
        """The number of what is added next."""
        number = self._added[what]
        if number == BOUNDS[what]:
            raise TooMany(what)
        self._added[what] = number + 1
        return number

    def _check_point(self, point):
        if not 0 <= point < len(self._points):
            raise NoSuchPart("point", point)

    def _check_part(self, kind, part):
        """Refuses what a constraint of a kind cannot be about."""
        if not _is_about_lines(kind):
            self._check_point(part)
        elif part not in self._lines:
            raise NoSuchPart("line", part)


def _check_place(u, v):
    if abs(u) > LARGEST_PLACE or abs(v) > LARGEST_PLACE:
        raise InvalidSketch("place")


def _part_count(kind):
    """How many of a, b and c a kind of constraint has."""
    if kind <= 1:
        return 1
    return 3 if 11 <= kind <= 16 else 2


def _has_formula(kind):
    return kind < FIRST_WITHOUT_FORMULA


def _is_about_lines(kind):
    return kind >= FIRST_ABOUT_LINES
