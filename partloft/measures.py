"""Measures of solids: areas, centres, clearances and extents."""

from partloft.faces import boundary_of
from partloft.grains import corners_of, middle_of
from partloft.ratios import lowest_terms
from partloft.refusals import NoGrains

# What a facet counts of four times the area, and of eighths of the root of 2.
AREAS = ((1, 0), (0, 2), (0, 1), (0, 1))


def area_of(solid):
    """Four times the area of the facets 0, and that of the others in eighths of the root of 2."""
    areas = [AREAS[facet] for _, facet in boundary_of(solid)]
    return (sum([square for square, _ in areas]), sum([slanted for _, slanted in areas]))


def centre_of(solid):
    """The mean of the middles of the grains: three fractions, in eighths; raises NoGrains."""
    _check_grains(solid)
    middles = [middle_of(solid.size, grain) for grain in solid.grains()]
    return tuple([lowest_terms(sum([middle[axis] for middle in middles]), len(middles)) for axis in range(3)])


def clearance(one, other):
    """By how much one solid must be grown to have a grain of the other one; None if no amount is enough."""
    for t in range(one.size + 1):
        if one.grown(t).common(other).many() > 0:
            return t
    return None


def extent_of(solid):
    """The least and the greatest coordinate, in units, along each axis; raises NoGrains."""
    _check_grains(solid)
    corners = [corner for grain in solid.grains() for corner in corners_of(solid.size, grain)]
    found = []
    for axis in range(3):
        halves = [corner[axis] for corner in corners]
        found.append((min(halves) // 2, (max(halves) + 1) // 2))
    return tuple(found)


def _check_grains(solid):
    if solid.many() == 0:
        raise NoGrains("the solid has no grains")
