"""Grains: the small tetrahedra of a room, told by their middles in eighths.

Three axes belong to a grain: along A its middle has the remainder 4 by 8, along
B the remainder 2 or 6, and along C the remainder 1 or 7.
"""

GRAINS_OF_CUBE = 24

# In the order of grains, those of a cube lie in five levels across z. From the
# remainder of a level: how many grains of the cube are in lower levels, and the
# remainders along y of its own grains.
LEVELS = {
    1: (0, (2, 4, 4, 6)),
    2: (4, (1, 4, 4, 7)),
    4: (8, (1, 1, 2, 2, 6, 6, 7, 7)),
    6: (16, (1, 4, 4, 7)),
    7: (20, (2, 4, 4, 6)),
}

# The level of each grain of a cube.
LEVEL_OF = (1, 1, 1, 1, 2, 2, 2, 2, 4, 4, 4, 4, 4, 4, 4, 4, 6, 6, 6, 6, 7, 7, 7, 7)

# From the remainders along z and y: how many grains of the level come before
# along y, and the remainders along x.
ROWS = {
    (1, 2): (0, (4,)), (1, 4): (1, (2, 6)), (1, 6): (3, (4,)),
    (2, 1): (0, (4,)), (2, 4): (1, (1, 7)), (2, 7): (3, (4,)),
    (4, 1): (0, (2, 6)), (4, 2): (2, (1, 7)), (4, 6): (4, (1, 7)), (4, 7): (6, (2, 6)),
    (6, 1): (0, (4,)), (6, 4): (1, (1, 7)), (6, 7): (3, (4,)),
    (7, 2): (0, (4,)), (7, 4): (1, (2, 6)), (7, 6): (3, (4,)),
}

# The corners of each facet of a grain.
FACETS = ((0, 1, 2), (0, 1, 3), (0, 2, 3), (1, 2, 3))


def grain_count(size):
    """The number of the grains of a room."""
    return GRAINS_OF_CUBE * size ** 3


def middle_of(size, grain):
    """The middle of a grain."""
    square = size * size
    cube_z, rest = divmod(grain, GRAINS_OF_CUBE * square)
    z = LEVEL_OF[rest // square]
    lower, remainders = LEVELS[z]
    cube_y, rest = divmod(rest - lower * square, len(remainders) * size)
    y = remainders[rest // size]
    before, along = ROWS[(z, y)]
    cube_x, rest = divmod(rest - before * size, len(along))
    return (8 * cube_x + along[rest], 8 * cube_y + y, 8 * cube_z + z)


def grain_at(size, x, y, z):
    """The grain with a middle, or None."""
    top = 8 * size
    if not (0 <= x < top and 0 <= y < top and 0 <= z < top):
        return None
    before, along = ROWS.get((z % 8, y % 8), (0, ()))
    if x % 8 not in along:
        return None
    lower, remainders = LEVELS[z % 8]
    square = size * size
    level = GRAINS_OF_CUBE * square * (z // 8) + square * lower
    row = len(remainders) * size * (y // 8) + size * before
    return level + row + len(along) * (x // 8) + along.index(x % 8)


def corners_of(size, grain):
    """The four corners of a grain, in halves of a unit."""
    middle = middle_of(size, grain)
    a, b, c = _axes(middle)
    low = [2 * (coordinate // 8) for coordinate in middle]
    centre = [coordinate + 1 for coordinate in low]
    low[b] += _near_side(middle[b])
    low[c] += _near_side(middle[c])
    high = list(low)
    high[a] += 2
    side = list(centre)
    side[c] = low[c]
    return (tuple(low), tuple(high), tuple(side), tuple(centre))


def neighbour_at(size, grain, facet):
    """The other grain to which a facet belongs, or None on the border of the room."""
    middle = middle_of(size, grain)
    i, j, k = _direction(middle, facet)
    # The middles on the two sides of a facet 1 are nearer to each other.
    far = 1 if facet == 1 else 2
    return grain_at(size, middle[0] + far * i, middle[1] + far * j, middle[2] + far * k)


def facet_corners(size, grain, facet):
    """The three corners of a facet."""
    corners = corners_of(size, grain)
    first, second, third = FACETS[facet]
    return (corners[first], corners[second], corners[third])


def direction_of(size, grain, facet):
    """The direction that points out of a grain at a facet."""
    return _direction(middle_of(size, grain), facet)


def offset_of(size, grain, facet):
    """The sum of the products of a direction and a point of its facet, in units."""
    direction = direction_of(size, grain, facet)
    corner = facet_corners(size, grain, facet)[0]
    return sum([direction[axis] * corner[axis] for axis in range(3)]) // 2


def _direction(middle, facet):
    a, b, c = _axes(middle)
    direction = [0, 0, 0]
    if facet == 0:
        direction[c] = -_sign(middle[c])
    elif facet == 1:
        direction[b] = -_sign(middle[b])
        direction[c] = _sign(middle[c])
    else:
        direction[a] = -1 if facet == 2 else 1
        direction[b] = _sign(middle[b])
    return tuple(direction)


def _axes(middle):
    """The axes A, B and C of a grain."""
    remainders = [coordinate % 8 for coordinate in middle]
    a = remainders.index(4)
    b = remainders.index(2) if 2 in remainders else remainders.index(6)
    return (a, b, 3 - a - b)


def _sign(coordinate):
    """1 if the near side of the cube is the lower one, -1 if it is the upper one."""
    return 1 if coordinate % 8 < 4 else -1


def _near_side(coordinate):
    """How far the near side lies above the lower side of the cube, in halves."""
    return 0 if coordinate % 8 < 4 else 2
