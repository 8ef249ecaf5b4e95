"""Faces: the surface of a solid, made of boundary facets (grain, facet)."""

from partloft.grains import direction_of, facet_corners, neighbour_at, offset_of

FACETS_OF_GRAIN = 4


def boundary_of(solid):
    """The list of the boundary facets, by their grains and then by their facets."""
    found = []
    for grain in solid.grains():
        for facet in range(FACETS_OF_GRAIN):
            other = neighbour_at(solid.size, grain, facet)
            if other is None or not solid.has(other):
                found.append((grain, facet))
    return found


def faces_of(solid):
    """The list of the faces (direction, offset, facets), in the order of their first facets."""
    marks = {facet: _marks_of(solid.size, facet) for facet in boundary_of(solid)}
    beside = {}
    for facet in marks:
        for mark in marks[facet]:
            beside.setdefault(mark, []).append(facet)
    seen = {}
    faces = []
    for facet in marks:
        if facet not in seen:
            facets = _face_from(facet, marks, beside)
            for one in facets:
                seen[one] = True
            direction, offset, _ = marks[facet][0]
            faces.append((direction, offset, facets))
    return faces


def edge_counts(solid):
    """A dict from pairs of corners to how many boundary facets have both."""
    counts = {}
    for grain, facet in boundary_of(solid):
        for side in sides_of(solid.size, grain, facet):
            counts[side] = counts.get(side, 0) + 1
    return counts


def signed_volume(solid):
    """The sum of the determinants of all boundary facets: twice the number of grains."""
    return sum([_determinant(solid.size, grain, facet) for grain, facet in boundary_of(solid)])


def is_closed(solid):
    """True if each side belongs to an even number of boundary facets."""
    return all([many % 2 == 0 for many in edge_counts(solid).values()])


def direction_code(direction):
    """The number that stands for a direction."""
    a, b, c = direction
    return 9 * (a + 1) + 3 * (b + 1) + c + 1


def sides_of(size, grain, facet):
    """The three pairs of corners of a facet, the lesser corner first in each of them."""
    first, second, third = sorted(facet_corners(size, grain, facet))
    return ((first, second), (first, third), (second, third))


def _marks_of(size, facet):
    """The direction and offset of a facet, with each of its sides: facets touch if they share one."""
    grain, number = facet
    direction = direction_of(size, grain, number)
    offset = offset_of(size, grain, number)
    return [(direction, offset, side) for side in sides_of(size, grain, number)]


def _face_from(facet, marks, beside):
    """The ascending tuple of the facets of the face that has this one."""
    found = {facet: True}
    waiting = [facet]
    while waiting:
        one = waiting.pop()
        for mark in marks[one]:
            for other in beside[mark]:
                if other not in found:
                    found[other] = True
                    waiting.append(other)
    return tuple(sorted(list(found)))


def _determinant(size, grain, facet):
    """The determinant of the corners of a facet, as they turn when seen from outside of the grain."""
    first, second, third = facet_corners(size, grain, facet)
    normal = _crossed(_difference(second, first), _difference(third, first))
    told = _product(first, _crossed(second, third))
    return told if _product(normal, direction_of(size, grain, facet)) > 0 else -told


def _difference(one, other):
    return (one[0] - other[0], one[1] - other[1], one[2] - other[2])


def _crossed(one, other):
    """The vector product."""
    return (
        one[1] * other[2] - one[2] * other[1],
        one[2] * other[0] - one[0] * other[2],
        one[0] * other[1] - one[1] * other[0],
    )


def _product(one, other):
    return one[0] * other[0] + one[1] * other[1] + one[2] * other[2]
