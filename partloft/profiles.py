"""Profiles: whether a sketch has a region in a room, its loops and its region."""

from partloft.errors import ProfileFault
from partloft.formulas import read_formula
from partloft.planes import QUARTER_POINTS
from partloft.solving import TAKEN, solve
from partloft.values import whole_number

SOUND = 0
NOT_SOLVED = 1
BEYOND_ROOM = 2
ASLANT = 3
WRONG_RADIUS = 4
OPEN_END = 5
CROSSED = 6


def profile(sketch, values, size):
    """The number that tells what is wrong with a sketch in a room, 0 if nothing is."""
    return Outline(sketch, values, size).profile


def loops(sketch, values, size):
    """The list of the loops, each the ascending list of its lines."""
    outline = Outline(sketch, values, size)
    outline.check_sound()
    return outline.loops()


def region(sketch, values, size):
    """The ascending list of the quarters (u, v, quarter) of the region within the room."""
    outline = Outline(sketch, values, size)
    outline.check_sound()
    return outline.quarters()


def is_straight(sketch, values, size):
    """True if there are no rising and no falling lines and no discs."""
    outline = Outline(sketch, values, size)
    outline.check_sound()
    return outline.is_straight()


def disc_bound(radius):
    """How far |du| + |dv| goes in a disc."""
    return (181 * radius + 64) // 128


def lies_in_disc(radius, du, dv):
    """True if a point du and dv, in eighths, away from the point of a disc is in the disc."""
    across = abs(du)
    along = abs(dv)
    return max(across, along) <= 8 * radius and across + along <= 8 * disc_bound(radius)


class Outline:
    """The lines and discs of a sketch where they are in a room, and their profile.

    Segments are a dict from lines to the places of both ends, circles a list of
    the places and radii of discs. A place or a radius is None if it is not whole.
    """

    def __init__(self, sketch, values, size):
        solution = solve(sketch, values)
        self.size = size
        self.segments = {}
        self.circles = []
        if solution.state <= TAKEN:
            places = [_whole_place(place) for place in solution.places]
            for number, (first, second) in sketch.lines().items():
                self.segments[number] = (places[first], places[second])
            for point, text in sketch.discs().values():
                self.circles.append((places[point], whole_number(read_formula(text), values)))
        self.profile = self._first_fault(solution.state)

    def check_sound(self):
        """Refuses a sketch with another profile than 0."""
        if self.profile != SOUND:
            raise ProfileFault(self.profile)

    def is_straight(self):
        """True if all lines are level or upright and there are no discs."""
        return self.circles == [] and all([0 in _run(ends) for ends in self.segments.values()])

    def loops(self):
        """The list of the loops."""
        at_place = self._lines_at_places()
        seen = {}
        found = []
        for line in sorted(list(self.segments)):
            if line not in seen:
                loop = self._loop_from(line, at_place)
                for one in loop:
                    seen[one] = True
                found.append(loop)
        return found

    def quarters(self):
        """The ascending list of the quarters of the region in the room."""
        found = []
        for u in range(self.size):
            for v in range(self.size):
                for quarter in range(4):
                    du, dv = QUARTER_POINTS[quarter]
                    if self._has(8 * u + du, 8 * v + dv):
                        found.append((u, v, quarter))
        return found

    def _first_fault(self, state):
        """The first of the profiles that is so."""
        if state > TAKEN:
            return NOT_SOLVED
        if not all([_is_in_room(place, self.size) for place in self._places()]):
            return BEYOND_ROOM
        if not all([_has_direction(ends) for ends in self.segments.values()]):
            return ASLANT
        if not all([radius is not None and 1 <= radius <= self.size for _, radius in self.circles]):
            return WRONG_RADIUS
        if not all([len(lines) == 2 for lines in self._lines_at_places().values()]):
            return OPEN_END
        return CROSSED if self._is_crossed() else SOUND

    def _places(self):
        """The list of the places of all ends of lines and of all discs."""
        ends = [place for line in self.segments.values() for place in line]
        return ends + [place for place, _ in self.circles]

    def _lines_at_places(self):
        """A dict from places to the lists of the lines that end there."""
        found = {}
        for line in sorted(list(self.segments)):
            for place in self.segments[line]:
                found.setdefault(place, []).append(line)
        return found

    def _is_crossed(self):
        """True if two lines share a point that is not an end of both.

        Lines in these directions that share points share one with whole
        coordinates in halves, and not only ends if they share more than one.
        """
        passed = {}
        for ends in self.segments.values():
            for point in _points_in_halves(ends):
                is_end = point in (_doubled(ends[0]), _doubled(ends[1]))
                passed.setdefault(point, []).append(is_end)
        return any([len(found) > 1 and not all(found) for found in passed.values()])

    def _loop_from(self, line, at_place):
        """The ascending list of the lines of the loop with this line."""
        found = {line: True}
        waiting = [line]
        while waiting:
            one = waiting.pop()
            for place in self.segments[one]:
                for other in at_place[place]:
                    if other not in found:
                        found[other] = True
                        waiting.append(other)
        return sorted(list(found))

    def _has(self, u, v):
        """True if a point, in eighths and inside of a quarter, lies in the region."""
        inside = False
        for ends in self.segments.values():
            if _is_beside(ends, u, v):
                inside = not inside
        for (middle_u, middle_v), radius in self.circles:
            if lies_in_disc(radius, u - 8 * middle_u, v - 8 * middle_v):
                inside = not inside
        return inside


def _whole_place(place):
    """The place of two fractions as integers, or None if they are not whole."""
    (u, u_denominator), (v, v_denominator) = place
    return (u, v) if u_denominator == 1 and v_denominator == 1 else None


def _is_in_room(place, size):
    return place is not None and min(place) >= 0 and max(place) <= size


def _run(ends):
    """du and dv of a line."""
    (first_u, first_v), (second_u, second_v) = ends
    return (second_u - first_u, second_v - first_v)


def _has_direction(ends):
    """True if a line is level, upright, rising or falling."""
    du, dv = _run(ends)
    return (du, dv) != (0, 0) and (du == 0 or dv == 0 or abs(du) == abs(dv))


def _doubled(place):
    return (2 * place[0], 2 * place[1])


def _points_in_halves(ends):
    """The list of the points of a line with whole coordinates in halves of a unit."""
    du, dv = _run(ends)
    length = max(abs(du), abs(dv))
    u, v = _doubled(ends[0])
    return [(u + k * du // length, v + k * dv // length) for k in range(2 * length + 1)]


def _is_beside(ends, u, v):
    """True if the ray from a point, in eighths, to greater u meets a line."""
    (first_u, first_v), (_, second_v) = ends
    if (8 * first_v < v) == (8 * second_v < v):
        return False
    du, dv = _run(ends)
    return 8 * first_u + du // dv * (v - 8 * first_v) > u
