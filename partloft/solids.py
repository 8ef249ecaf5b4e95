"""Solids: sets of grains of a room."""

from partloft.grains import grain_at, grain_count, middle_of, neighbour_at
from partloft.refusals import InvalidAmount, InvalidSize, InvalidWay, NoSuchGrain

LEAST_SIZE = 2
LARGEST_SIZE = 6
WAYS = 48

# For each eighth part of the ways: the old axes that the new ones come from.
ORDERS = ((0, 1, 2), (1, 2, 0), (2, 0, 1), (0, 2, 1), (2, 1, 0), (1, 0, 2))


class Solid:
    """A set of grains of a room of a size."""

    def __init__(self, size, grains):
        if not LEAST_SIZE <= size <= LARGEST_SIZE:
            raise InvalidSize(size)
        many = grain_count(size)
        for grain in grains:
            if not 0 <= grain < many:
                raise NoSuchGrain(grain)
        self.size = size
        self._there = {grain: True for grain in grains}
        self._grains = sorted(list(self._there))

    def __eq__(self, other):
        return isinstance(other, Solid) and self.size == other.size and self._grains == other._grains

    def grains(self):
        """The ascending list of the grains."""
        return list(self._grains)

    def has(self, grain):
        """True if this grain is in the solid."""
        return grain in self._there

    def many(self):
        """The number of grains."""
        return len(self._grains)

    def united(self, other):
        """The solid with the grains of both."""
        return Solid(self.size, self.grains() + other.grains())

    def less(self, other):
        """The solid with the grains that the other one does not have."""
        return Solid(self.size, [grain for grain in self._grains if not other.has(grain)])

    def common(self, other):
        """The solid with the grains that both have."""
        return Solid(self.size, [grain for grain in self._grains if other.has(grain)])

    def rest(self):
        """The solid with all grains of the room that this one does not have."""
        return Solid(self.size, [grain for grain in range(grain_count(self.size)) if grain not in self._there])

    def moved(self, dx, dy, dz):
        """The solid moved by so many units; what would leave the room is cut off."""
        return solid_at(self.size, [(x + 8 * dx, y + 8 * dy, z + 8 * dz) for (x, y, z) in self._middles()])

    def turned(self, way):
        """The solid turned and mirrored by a way."""
        if not 0 <= way < WAYS:
            raise InvalidWay(way)
        return solid_at(self.size, [_turned_point(self.size, way, middle) for middle in self._middles()])

    def grown(self, t):
        """The solid united with itself moved by up to t along the axes."""
        self._check_amount(t)
        middles = {middle: True for middle in self._middles()}
        # To move along several axes is to move along one after the other.
        for axis in range(3):
            middles = _spread(self.size, list(middles), axis, t)
        return solid_at(self.size, list(middles))

    def shrunk(self, t):
        """The solid with the grains that stay in it when they are moved by up to t."""
        self._check_amount(t)
        inner = [grain for grain in self._grains if _is_inside(self.size, grain, t)]
        return Solid(self.size, inner).less(self.rest().grown(t))

    def lumps(self):
        """The list of the largest solids that hang together."""
        seen = {}
        lumps = []
        for grain in self._grains:
            if grain not in seen:
                lump = self._lump_from(grain)
                for one in lump:
                    seen[one] = True
                lumps.append(Solid(self.size, lump))
        return lumps

    def hollows(self):
        """The list of the lumps of the rest that do not touch the border of the room."""
        return [lump for lump in self.rest().lumps() if not lump.touches_border()]

    def touches_border(self):
        """True if a grain has a facet on the border of the room."""
        return any([neighbour_at(self.size, grain, 0) is None for grain in self._grains])

    def _middles(self):
        return [middle_of(self.size, grain) for grain in self._grains]

    def _check_amount(self, t):
        if not 0 <= t <= self.size:
            raise InvalidAmount(t)

    def _lump_from(self, grain):
        """The list of the grains that hang together with a grain."""
        found = {grain: True}
        waiting = [grain]
        while waiting:
            one = waiting.pop()
            for facet in range(4):
                other = neighbour_at(self.size, one, facet)
                if other in self._there and other not in found:
                    found[other] = True
                    waiting.append(other)
        return list(found)


def empty(size):
    """The solid without grains."""
    return Solid(size, [])


def whole(size):
    """The solid with all grains of the room."""
    return empty(size).rest()


def solid_at(size, middles):
    """The solid of the grains with these middles; those out of the room are cut off."""
    grains = [grain_at(size, x, y, z) for (x, y, z) in middles]
    return Solid(size, [grain for grain in grains if grain is not None])


def _turned_point(size, way, point):
    """Where a point in eighths goes."""
    turned = [point[axis] for axis in ORDERS[way // 8]]
    for axis in range(3):
        if (way >> axis) & 1 == 1:
            turned[axis] = 8 * size - turned[axis]
    return tuple(turned)


def _spread(size, middles, axis, t):
    """The middles moved by up to t units along one axis, within the room."""
    spread = {}
    for middle in middles:
        at = middle[axis]
        low = max(at - 8 * t, at % 8)
        high = min(at + 8 * t + 1, 8 * size)
        for coordinate in range(low, high, 8):
            spread[middle[:axis] + (coordinate,) + middle[axis + 1:]] = True
    return spread


def _is_inside(size, grain, t):
    """True if a grain stays in the room when it is moved by up to t."""
    cubes = [coordinate // 8 for coordinate in middle_of(size, grain)]
    return t <= min(cubes) and max(cubes) < size - t
