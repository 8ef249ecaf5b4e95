"""Changes of a solid by features that have no tool."""

from partloft.errors import FieldFault
from partloft.grains import grain_count, middle_of, neighbour_at
from partloft.planes import quarter_at, split_point
from partloft.repeating import mirror_of
from partloft.solids import WAYS, Solid


def changed(kind, part, fields):
    """The solid that a feature of a kind makes of a solid; raises FieldFault."""
    change = CHANGES[kind]
    return change(part, fields)


def is_across_axis(face):
    """True if the direction of a face has one item that is not 0."""
    return len([one for one in face[0] if one != 0]) == 1


def pulled(part, face, height):
    """The grains that are added, or taken away if the height is negative, by pulling a face."""
    if height == 0 or abs(height) > part.size:
        raise FieldFault(1)
    reached = Solid(part.size, _grains_in_columns(part.size, face, 8 * height))
    return reached.less(part) if height > 0 else reached.common(part)


def _grains_in_columns(size, face, height):
    """The grains in a column, from the plane of a face to a height in eighths, which may be negative."""
    direction, offset, facets = face
    axis = [k for k in range(3) if direction[k] != 0][0]
    columns = {}
    for grain, _ in facets:
        u, v, _ = split_point(axis, middle_of(size, grain))
        columns[quarter_at(u, v)] = True
    found = []
    for grain in range(grain_count(size)):
        u, v, w = split_point(axis, middle_of(size, grain))
        above = direction[axis] * w - 8 * offset
        if min(0, height) < above <= max(0, height) and quarter_at(u, v) in columns:
            found.append(grain)
    return found


def _check(fields, field, least, greatest):
    if not least <= fields[field] <= greatest:
        raise FieldFault(field)


def _shifted(part, fields):
    return part.moved(fields[0], fields[1], fields[2])


def _turned(part, fields):
    _check(fields, 0, 0, WAYS - 1)
    return part.turned(fields[0])


def _grown(part, fields):
    _check(fields, 0, 1, part.size)
    return part.grown(fields[0])


def _shrunk(part, fields):
    _check(fields, 0, 1, part.size)
    return part.shrunk(fields[0])


def _shelled(part, fields):
    return part.less(_shrunk(part, fields))


def _cut_by_plane(part, fields):
    for field in range(3):
        _check(fields, field, -1, 1)
    nx, ny, nz, d = fields
    if (nx, ny, nz) == (0, 0, 0):
        raise FieldFault(2)
    kept = []
    for grain in part.grains():
        x, y, z = middle_of(part.size, grain)
        if nx * x + ny * y + nz * z <= 8 * d:
            kept.append(grain)
    return Solid(part.size, kept)


def _twinned(part, fields):
    return part.united(mirror_of(part, fields[0], fields[1]))


def _largest_lump(part, _):
    lumps = part.lumps()
    # Of lumps with as many grains, max takes the first one.
    return max(lumps, key=_size_of) if lumps else part


def _size_of(lump):
    return lump.many()


def _filled(part, _):
    filled = part
    for hollow in part.hollows():
        filled = filled.united(hollow)
    return filled


def _cleaned(part, fields):
    _check(fields, 0, 1, 4)
    return Solid(part.size, [grain for grain in part.grains() if _neighbours_in(part, grain) >= fields[0]])


def _neighbours_in(part, grain):
    """How many neighbours of a grain are in a solid."""
    return len([facet for facet in range(4) if part.has(neighbour_at(part.size, grain, facet))])


CHANGES = {
    "shift": _shifted,
    "way": _turned,
    "grow": _grown,
    "shrink": _shrunk,
    "shell": _shelled,
    "split": _cut_by_plane,
    "twin": _twinned,
    "lump": _largest_lump,
    "fill": _filled,
    "clean": _cleaned,
}
