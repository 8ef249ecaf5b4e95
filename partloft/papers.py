"""Papers: tuples that show that a cut, a closed surface or the name of a face is right."""

from partloft.cutting import Cutter
from partloft.faces import boundary_of, sides_of
from partloft.grains import middle_of
from partloft.tools import neighbours_of, takes


def cut_paper(part, radius):
    """The paper of a cut: the tour, the reached places, and a grain for each step that is not free."""
    cutter = Cutter(part, radius)
    reached = cutter.reached()
    middles = [(grain, middle_of(part.size, grain)) for grain in part.grains()]
    blocks = []
    for place in reached:
        for other in neighbours_of(part.size, place):
            if not cutter.is_free_step(place, other):
                blocks.append((place, other, _first_taken(middles, radius, place, other)))
    return ("cut", tuple(cutter.tour()), tuple(reached), tuple(blocks))


def closed_paper(solid):
    """The paper of a closed surface: the boundary facets at each pair of corners."""
    beside = {}
    # Boundary facets come in order, and so they do at each pair.
    for grain, facet in boundary_of(solid):
        for side in sides_of(solid.size, grain, facet):
            beside.setdefault(side, []).append((grain, facet))
    return ("closed", tuple([(side[0], side[1], tuple(beside[side])) for side in sorted(list(beside))]))


def name_paper(solid, makers, face):
    """The paper of a name: the number of its face, and the makers of all boundary facets."""
    return ("named", face, tuple([makers[facet] for facet in boundary_of(solid)]))


def _first_taken(middles, radius, place, other):
    """The first of the grains, told with their middles, that the tool takes on a step; None if there is none."""
    for grain, middle in middles:
        if takes(radius, place, other, middle):
            return grain
    return None
