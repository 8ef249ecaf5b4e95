"""Bodies: solids that are made from integers, and perhaps from a sketch or an axis.

A body has the grains whose middles are among certain points. Points are told in
eighths of a unit; no middle lies on the surface of such a body.
"""

from partloft.errors import FieldFault, ProfileFault
from partloft.grains import grain_count, middle_of
from partloft.planes import OTHER_AXES, quarter_at, split_point
from partloft.profiles import ASLANT, SOUND, Outline, disc_bound, lies_in_disc
from partloft.solids import Solid

LARGEST_RADIUS = 64
LAST_WEDGE_WAY = 11
NOT_STRAIGHT = 7

FIELD_COUNTS = {
    "block": 6, "wedge": 7, "hole": 5, "step": 7, "sink": 5, "prism": 2, "taper": 2, "turn": 1, "wall": 3,
}

# The fields with bounds: (field, least, greatest).
BOUNDS = {
    "wedge": ((6, 0, LAST_WEDGE_WAY),),
    "hole": ((4, 1, LARGEST_RADIUS),),
    "step": ((4, 1, LARGEST_RADIUS), (6, 1, LARGEST_RADIUS)),
    "sink": ((4, 1, LARGEST_RADIUS),),
    "wall": ((0, 1, LARGEST_RADIUS),),
}

STRAIGHT_KINDS = ("taper", "turn")


def field_count(kind):
    """The number of fields of a kind of body."""
    return FIELD_COUNTS[kind]


def body_of(size, kind, fields, sketch, values, axis):
    """The solid of a kind of body; raises FieldFault, then ProfileFault."""
    for field, least, greatest in BOUNDS.get(kind, ()):
        if not least <= fields[field] <= greatest:
            raise FieldFault(field)
    middles = [middle_of(size, grain) for grain in range(grain_count(size))]
    if kind in PLAIN:
        holds = PLAIN[kind]
        return _solid_of(size, [holds(fields, middle) for middle in middles])
    if kind in ALONG_AXIS:
        holds = ALONG_AXIS[kind]
        return _solid_of(size, [holds(fields, split_point(axis, middle)) for middle in middles])
    outline = Outline(sketch, values, size)
    _check_outline(kind, outline)
    holds = OF_SKETCH[kind]
    drawn = _what_is_drawn(kind, outline)
    return _solid_of(size, [holds(fields, _seen_from(sketch, middle), drawn) for middle in middles])


def _solid_of(size, told):
    """The solid of the grains of which it is told that they belong to it."""
    return Solid(size, [grain for grain in range(len(told)) if told[grain]])


def _seen_from(sketch, point):
    """u and v of a point, and how far above the plane of a sketch it is."""
    u, v, w = split_point(sketch.axis(), point)
    return (u, v, w - 8 * sketch.offset())


def _what_is_drawn(kind, outline):
    """The ends of all lines for a wall, otherwise the quarters of the region."""
    if kind == "wall":
        return list(outline.segments.values())
    return {quarter: True for quarter in outline.quarters()}


def _check_outline(kind, outline):
    """Refuses a sketch of which a kind of body cannot be made."""
    # Lines alone are enough for a wall, whether or not they make loops.
    if kind == "wall" and outline.profile > ASLANT:
        return
    if outline.profile != SOUND:
        raise ProfileFault(outline.profile)
    if kind in STRAIGHT_KINDS and not outline.is_straight():
        raise ProfileFault(NOT_STRAIGHT)


def _is_from_to(low, high, coordinate):
    """True if a coordinate is not below low and not above high."""
    return 8 * low <= coordinate <= 8 * high


def _is_between(one, other, coordinate):
    """The same for two ends of which either may be the greater one."""
    return _is_from_to(min(one, other), max(one, other), coordinate)


def _in_block(fields, point):
    return all([_is_from_to(fields[axis], fields[axis + 3], point[axis]) for axis in range(3)])


def _in_wedge(fields, point):
    if not _in_block(fields[:6], point):
        return False
    way = fields[6]
    first, second = OTHER_AXES[way // 4]
    width = fields[first + 3] - fields[first]
    if fields[second + 3] - fields[second] != width:
        return False
    p = _distance(fields, point, first, way % 2 == 1)
    q = _distance(fields, point, second, way // 2 % 2 == 1)
    return p + q <= 8 * width


def _distance(fields, point, axis, is_upper):
    """How far a point of a block is away from its upper or lower side across an axis."""
    if is_upper:
        return 8 * fields[axis + 3] - point[axis]
    return point[axis] - 8 * fields[axis]


def _in_hole(fields, point):
    middle_u, middle_v, start, end, radius = fields
    u, v, w = point
    return _is_between(start, end, w) and lies_in_disc(radius, u - 8 * middle_u, v - 8 * middle_v)


def _in_step(fields, point):
    u, v, start, end, radius, second_end, second_radius = fields
    return _in_hole((u, v, start, end, radius), point) or _in_hole((u, v, start, second_end, second_radius), point)


def _in_sink(fields, point):
    middle_u, middle_v, start, end, slope = fields
    u, v, w = point
    reach = 8 * slope - abs(w - 8 * start)
    return _is_between(start, end, w) and max(abs(u - 8 * middle_u), abs(v - 8 * middle_v)) <= reach


def _in_prism(fields, point, quarters):
    u, v, w = point
    return _is_from_to(fields[0], fields[1], w) and quarter_at(u, v) in quarters


def _in_taper(fields, point, quarters):
    u, v, w = point
    if not _is_between(fields[0], fields[1], w):
        return False
    reach = abs(w - 8 * fields[0])
    # All unit squares of which some inner point is less than this far away.
    for square_u in range((u - reach) // 8, (u + reach + 7) // 8):
        for square_v in range((v - reach) // 8, (v + reach + 7) // 8):
            if (square_u, square_v, 0) not in quarters:
                return False
    return True


def _in_turn(fields, point, quarters):
    u, v, w = point
    radius = _least_radius(abs(u - 8 * fields[0]), abs(w))
    return (fields[0] + radius - 1, v // 8, 0) in quarters


def _least_radius(p, q):
    """The least radius of a disc that has a point in eighths."""
    radius = (max(p, q) + 7) // 8
    while p + q > 8 * disc_bound(radius):
        radius += 1
    return radius


def _along_lines(fields, point, segments):
    """True if a point is near enough to some line, in the height of a wall."""
    u, v, w = point
    if not _is_from_to(fields[1], fields[2], w):
        return False
    return any([_is_near(ends, u, v, 8 * fields[0]) for ends in segments])


def _is_near(ends, u, v, reach):
    """True if a point of a line is at most so far away both in u and in v."""
    (first_u, first_v), (second_u, second_v) = ends
    length = max(abs(second_u - first_u), abs(second_v - first_v))
    # How far along the line its points are near enough in u, and in v.
    low_u, high_u = _near_part(u - 8 * first_u, (second_u - first_u) // length, reach, 8 * length)
    low_v, high_v = _near_part(v - 8 * first_v, (second_v - first_v) // length, reach, 8 * length)
    return max(low_u, low_v) <= min(high_u, high_v)


def _near_part(away, step, reach, length):
    """The part (low, high) of a line of this length that is near enough along one axis.

    The point is so far away from the line's first end, and step tells whether
    the line goes up, down or nowhere along the axis. Low is above high if no
    part is near enough.
    """
    if step == 0:
        return (0, length) if abs(away) <= reach else (1, 0)
    return (max(0, step * away - reach), min(length, step * away + reach))


PLAIN = {"block": _in_block, "wedge": _in_wedge}
ALONG_AXIS = {"hole": _in_hole, "step": _in_step, "sink": _in_sink}
OF_SKETCH = {"prism": _in_prism, "taper": _in_taper, "turn": _in_turn, "wall": _along_lines}
