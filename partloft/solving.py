"""Solving: the places of a sketch's points, and the constraints that cannot hold."""

from partloft.errors import NoSuchPart, NotSolved
from partloft.formulas import read_formula
from partloft.sketches import FIRST_ABOUT_LINES, FIRST_WITHOUT_FORMULA
from partloft.systems import System
from partloft.values import whole_number

DETERMINED = 0
TAKEN = 1
CONTRADICTORY = 2
WITHOUT_NUMBER = 3

# For each kind of constraint the left sides of its equations less the right ones
# without w: a sign, u or v, and the point a, b or c of each term.
OF_POINTS = (
    ("+ua",),
    ("+va",),
    ("+ub-ua",),
    ("+vb-va",),
    ("+vb-ub-va+ua",),
    ("+ub+vb-ua-va",),
    ("+va-vb",),
    ("+ua-ub",),
    ("+vb-va-ub+ua",),
    ("+vb-va-ua+ub",),
    ("+ua-ub", "+va-vb"),
    ("+ua+ub-uc-uc", "+va+vb-vc-vc"),
    ("+ua+ub-uc-uc", "+va-vb"),
    ("+ua-ub", "+va+vb-vc-vc"),
    ("+ub-uc-va+vc", "+vb-vc-ua+uc"),
    ("+ub-uc-vc+va", "+vb-vc-uc+ua"),
    ("+ub-uc-vc+va", "+vb-vc-ua+uc"),
)

# The same for the kinds about lines, where ua stands for du of the line a.
OF_LINES = (
    ("+ua-ub",),
    ("+va-vb",),
    ("+ua-vb",),
    ("+ua+vb",),
    ("+ua+ub",),
    ("+va+vb",),
    ("+ua-ub", "+va-vb"),
)


class Solution:
    """The state of a sketch, the places of its points, and how many unknowns were taken."""

    def __init__(self, state, places, taken):
        self.state = state
        self.places = places
        self.taken = taken


def solve(sketch, values):
    """The solution of a sketch."""
    demands = _demands(sketch, values)
    if _without_number(demands) is not None:
        return Solution(WITHOUT_NUMBER, (), -1)
    system = _system(demands, list(demands))
    if not system.can_hold():
        return Solution(CONTRADICTORY, (), -1)
    return _placed(sketch, system)


def conflict(sketch, values):
    """The list of the constraints that cannot hold together, none of which can be left out."""
    demands = _demands(sketch, values)
    wrong = _without_number(demands)
    if wrong is not None:
        return [wrong]
    left = list(demands)
    if _system(demands, left).can_hold():
        return []
    for number in reversed(list(demands)):
        others = [one for one in left if one != number]
        if not _system(demands, others).can_hold():
            left = others
    return left


def is_redundant(sketch, values, constraint):
    """True if a constraint holds wherever all constraints before it hold."""
    demands = _demands(sketch, values)
    if constraint not in demands:
        raise NoSuchPart("constraint", constraint)
    if _without_number(demands) is not None:
        raise NotSolved(WITHOUT_NUMBER)
    system = _system(demands, [number for number in demands if number < constraint])
    return all([system.implies(coefficients, right) for coefficients, right in demands[constraint]])


def equations(sketch, values, constraint):
    """The list of the equations (coefficients, right) of a constraint."""
    rows = sketch.constraints()
    if constraint not in rows:
        raise NoSuchPart("constraint", constraint)
    found = _equations_of(sketch, values, rows[constraint])
    if found is None:
        raise NotSolved(WITHOUT_NUMBER)
    return found


def _demands(sketch, values):
    """A dict from constraints, ascending, to their equations; None stands for a formula without a whole number."""
    rows = sketch.constraints()
    return {number: _equations_of(sketch, values, rows[number]) for number in sorted(list(rows))}


def _without_number(demands):
    """The first constraint whose formula gives no whole number, or None."""
    for number in demands:
        if demands[number] is None:
            return number
    return None


def _system(demands, numbers):
    """The system of the equations of these constraints."""
    system = System()
    for number in numbers:
        for coefficients, right in demands[number]:
            system.require(coefficients, right)
    return system


def _placed(sketch, system):
    """The solution of a sketch whose equations can hold."""
    drawn = [coordinate for place in sketch.points() for coordinate in place]
    found = []
    taken = 0
    for unknown in range(len(drawn)):
        number = system.number_of(unknown, found)
        if number is None:
            number = (drawn[unknown], 1)
            taken += 1
        found.append(number)
    places = tuple([(found[at], found[at + 1]) for at in range(0, len(found), 2)])
    return Solution(DETERMINED if taken == 0 else TAKEN, places, taken)


def _equations_of(sketch, values, row):
    """The equations of one constraint, or None if its formula gives no whole number."""
    kind, a, b, c, text = row
    right = 0
    if kind < FIRST_WITHOUT_FORMULA:
        right = whole_number(read_formula(text), values)
        if right is None:
            return None
    if kind < FIRST_ABOUT_LINES:
        texts = OF_POINTS[kind]
        parts = [[(point, 1)] for point in (a, b, c)]
    else:
        texts = OF_LINES[kind - FIRST_ABOUT_LINES]
        lines = sketch.lines()
        parts = [[(lines[line][1], 1), (lines[line][0], -1)] for line in (a, b)]
    many = len(sketch.points())
    return [(_coefficients(text, parts, many), right) for text in texts]


def _coefficients(text, parts, many):
    """The coefficients of all unknowns of so many points in an equation of the tables above."""
    found = [0] * (2 * many)
    for at in range(0, len(text), 3):
        factor = 1 if text[at] == "+" else -1
        coordinate = "uv".index(text[at + 1])
        for point, weight in parts["abc".index(text[at + 2])]:
            found[2 * point + coordinate] += factor * weight
    return tuple(found)
