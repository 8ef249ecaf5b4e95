"""Points 128 and 129 in plain, slow steps, to compare with."""

import itertools

from partloft.faces import direction_code, faces_of
from partloft.grains import facet_corners, neighbour_at


def boundary(solid):
    """Point 75."""
    found = []
    for grain in solid.grains():
        for facet in range(4):
            other = neighbour_at(solid.size, grain, facet)
            if other is None or not solid.has(other):
                found.append((grain, facet))
    return found


def closed_rows(solid):
    """The rows of the paper of point 128."""
    rows = {}
    for facet in boundary(solid):
        for pair in itertools.combinations(sorted(facet_corners(solid.size, *facet)), 2):
            rows.setdefault(pair, []).append(facet)
    return tuple((*pair, tuple(sorted(rows[pair]))) for pair in sorted(rows))


def has_form(item, many):
    return isinstance(item, tuple) and len(item) == many and all(isinstance(one, int) for one in item)


def is_closed_paper(solid, paper):
    """Point 128: what is accepted."""
    if not isinstance(paper, tuple) or len(paper) != 2 or paper[0] != "closed" or not isinstance(paper[1], tuple):
        return False
    corners = {facet: facet_corners(solid.size, *facet) for facet in boundary(solid)}
    many = dict.fromkeys(corners, 0)
    pairs = []
    for row in paper[1]:
        if not isinstance(row, tuple) or len(row) != 3 or not has_form(row[0], 3) or not has_form(row[1], 3):
            return False
        low, high, facets = row
        if not low < high or (pairs and not pairs[-1] < (low, high)):
            return False
        pairs.append((low, high))
        if not isinstance(facets, tuple) or not facets or len(facets) % 2 or not all(has_form(one, 2) for one in facets):
            return False
        if not all(one < two for one, two in zip(facets, facets[1:])):
            return False
        for facet in facets:
            if facet not in corners or low not in corners[facet] or high not in corners[facet]:
                return False
            many[facet] += 1
    return all(one == 3 for one in many.values())


def names(solid, makers):
    """Point 96 for all faces."""
    found = []
    for number, (direction, _, facets) in enumerate(faces_of(solid)):
        key = (makers[facets[0]], direction_code(direction))
        found.append((*key, sum(name[:2] == key for name in found[:number])))
    return found
