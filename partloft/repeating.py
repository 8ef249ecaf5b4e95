"""Repetitions of bodies: rows, rings and mirrors.

Each repetition is made from all grains of a body, and only then cut off at the
room, so that a repetition out of the room does not stop the next ones.
"""

from partloft.errors import FieldFault
from partloft.grains import middle_of
from partloft.planes import OTHER_AXES
from partloft.solids import solid_at

MOST_IN_ROW = 64
MOST_IN_RING = 4


def row_of(body, count, dx, dy, dz):
    """A body together with itself moved once, twice and so on."""
    if not 2 <= count <= MOST_IN_ROW:
        raise FieldFault(0)
    row = body
    # As many moves as the room is wide bring all out of it, or none do anything.
    for times in range(1, min(count, body.size)):
        row = row.united(body.moved(times * dx, times * dy, times * dz))
    return row


def ring_of(body, axis, p, q, count):
    """A body together with itself turned by one quarter, two quarters and so on."""
    _check_axis(axis)
    if (p + q) % 2 != 0:
        raise FieldFault(2)
    if not 2 <= count <= MOST_IN_RING:
        raise FieldFault(3)
    ring = body
    middles = _middles(body)
    for _ in range(1, count):
        middles = [_quarter_turned(middle, axis, p, q) for middle in middles]
        ring = ring.united(solid_at(body.size, middles))
    return ring


def mirror_of(body, axis, p):
    """The mirrored body alone."""
    _check_axis(axis)
    return solid_at(body.size, [_mirrored(middle, axis, p) for middle in _middles(body)])


def _check_axis(axis):
    if not 0 <= axis <= 2:
        raise FieldFault(0)


def _middles(body):
    return [middle_of(body.size, grain) for grain in body.grains()]


def _quarter_turned(point, axis, p, q):
    """Where a quarter turn about the line at p / 2 and q / 2 brings a point in eighths."""
    first, second = OTHER_AXES[axis]
    turned = list(point)
    turned[first] = 4 * (p + q) - point[second]
    turned[second] = 4 * (q - p) + point[first]
    return tuple(turned)


def _mirrored(point, axis, p):
    mirrored = list(point)
    mirrored[axis] = 8 * p - point[axis]
    return tuple(mirrored)
