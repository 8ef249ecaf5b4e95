"""Views of solids along an axis, the strokes of their pictures, and sections.

Each unit square of a picture has eight pieces. They lie about its middle, and the
piece with the number k has the corners k and k + 1 of the rim of the square.
"""

from partloft.faces import faces_of
from partloft.grains import facet_corners, grain_at
from partloft.planes import OTHER_AXES, QUARTER_POINTS, split_point

PIECES = 8

# The point of each piece, in eighths from the lesser corner of its square.
PIECE_POINTS = ((3, 1), (5, 1), (7, 3), (7, 5), (5, 7), (3, 7), (1, 5), (1, 3))

# The rim of a square and its middle, in halves from its lesser corner.
RIM = ((0, 0), (1, 0), (2, 0), (2, 1), (2, 2), (1, 2), (0, 2), (0, 1))
MIDDLE = (1, 1)

# How a side of each direction goes on from its first end: level, upright, rising and falling.
DIRECTIONS = ((1, 0), (0, 1), (1, 1), (1, -1))


def shown(solid, axis, above):
    """A dict from the pieces (u, v, piece) that show a face to the numbers of the faces."""
    # How far away along the line of sight, and which face, is the nearest one so far.
    nearest = {}
    for number, (direction, offset, facets) in enumerate(faces_of(solid)):
        if direction[axis] == (1 if above else -1):
            for grain, facet in facets:
                corners = facet_corners(solid.size, grain, facet)
                for piece in _pieces_of(axis, corners):
                    away = _height(axis, direction, offset, piece)
                    told = (-away if above else away, number)
                    nearest[piece] = min(told, nearest.get(piece, told))
    return {piece: nearest[piece][1] for piece in sorted(list(nearest))}


def strokes(size, picture):
    """The list of the strokes (u0, v0, u1, v1) of a picture."""
    drawn = _drawn_sides(size, picture)
    found = []
    for du, dv in DIRECTIONS:
        starts = [(v, u) for (u, v, step) in drawn if step == (du, dv) and (u - du, v - dv, step) not in drawn]
        for v, u in sorted(starts):
            many = 1
            while (u + many * du, v + many * dv, (du, dv)) in drawn:
                many += 1
            found.append((u, v, u + many * du, v + many * dv))
    return found


def section(solid, axis, at):
    """How many quarters in a plane have grains of the solid on both sides, and how many on one side only."""
    counts = [0, 0, 0]
    for u in range(solid.size):
        for v in range(solid.size):
            for du, dv in QUARTER_POINTS:
                sides = [_grain_beside(solid.size, axis, 8 * u + du, 8 * v + dv, 8 * at + dw) for dw in (-1, 1)]
                counts[len([grain for grain in sides if solid.has(grain)])] += 1
    return (counts[2], counts[1])


def _pieces_of(axis, corners):
    """The list of the pieces (u, v, piece) over which a facet lies, seen along an axis."""
    flat = [split_point(axis, corner)[:2] for corner in corners]
    # A facet lies in one cube, so that it is seen in one square.
    square_u = min([u for u, _ in flat]) // 2
    square_v = min([v for _, v in flat]) // 2
    found = []
    for piece in range(PIECES):
        u, v = PIECE_POINTS[piece]
        if _is_within(flat, 8 * square_u + u, 8 * square_v + v):
            found.append((square_u, square_v, piece))
    return found


def _is_within(flat, u, v):
    """True if a point in eighths lies in a triangle with corners in halves."""
    turns = [_turn(flat[at - 1], flat[at], u, v) for at in range(3)]
    return min(turns) > 0 or max(turns) < 0


def _turn(one, other, u, v):
    """Above 0 if a point lies on one side of the line through two corners, below 0 on the other side."""
    return (other[0] - one[0]) * (v - 4 * one[1]) - (other[1] - one[1]) * (u - 4 * one[0])


def _height(axis, direction, offset, piece):
    """The coordinate along an axis, in eighths, at which the line through a piece meets a plane."""
    first, second = OTHER_AXES[axis]
    u, v = PIECE_POINTS[piece[2]]
    aside = direction[first] * (8 * piece[0] + u) + direction[second] * (8 * piece[1] + v)
    return (8 * offset - aside) * direction[axis]


def _drawn_sides(size, picture):
    """A dict of the drawn sides (u, v, step): the first end in halves, and how the side goes on."""
    beside = {}
    for u in range(size):
        for v in range(size):
            for piece in range(PIECES):
                number = picture.get((u, v, piece))
                for side in _sides_of_piece(u, v, piece):
                    beside.setdefault(side, []).append(number)
    drawn = {}
    for (one, other), numbers in beside.items():
        # At the edge of the picture there is nothing on the other side.
        if numbers[0] != (numbers[1] if len(numbers) == 2 else None):
            drawn[(one[0], one[1], (other[0] - one[0], other[1] - one[1]))] = True
    return drawn


def _sides_of_piece(u, v, piece):
    """The three sides of a piece, each with its first end first."""
    corners = [RIM[piece], RIM[(piece + 1) % PIECES], MIDDLE]
    first, second, third = sorted([(2 * u + du, 2 * v + dv) for du, dv in corners])
    return ((first, second), (first, third), (second, third))


def _grain_beside(size, axis, u, v, w):
    """The grain with a middle at these coordinates across and along an axis."""
    middle = [0, 0, 0]
    first, second = OTHER_AXES[axis]
    middle[first] = u
    middle[second] = v
    middle[axis] = w
    return grain_at(size, middle[0], middle[1], middle[2])
