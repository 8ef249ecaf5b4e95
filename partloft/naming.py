"""Makers of boundary facets, and the names of faces that follow from them."""

from partloft.faces import direction_code


def makers_after(boundary, before, feature):
    """The makers behind a feature: it has made the facets that were not on the boundary before."""
    return {facet: before.get(facet, feature) for facet in boundary}


def names_of(faces, makers):
    """The list of the names (maker, code, number) of faces, in order."""
    many = {}
    names = []
    for direction, _, facets in faces:
        maker = makers[facets[0]]
        code = direction_code(direction)
        number = many.get((maker, code), 0)
        many[(maker, code)] = number + 1
        names.append((maker, code, number))
    return names
