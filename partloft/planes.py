"""Planes across an axis: coordinates in them, and quarters of their unit squares."""

# For each axis the two other ones in order, along which u and v are told.
OTHER_AXES = ((1, 2), (0, 2), (0, 1))

# A point of each quarter of a unit square, in eighths from the lesser corner.
QUARTER_POINTS = ((4, 2), (6, 4), (4, 6), (2, 4))


def split_point(axis, point):
    """The coordinates u and v of a point in the plane across an axis, and w along the axis."""
    first, second = OTHER_AXES[axis]
    return (point[first], point[second], point[axis])


def quarter_at(u, v):
    """The quarter (u, v, quarter) with a point in eighths that is on no edge of a quarter."""
    du = u % 8 - 4
    dv = v % 8 - 4
    if abs(dv) > abs(du):
        quarter = 0 if dv < 0 else 2
    else:
        quarter = 1 if du > 0 else 3
    return (u // 8, v // 8, quarter)
