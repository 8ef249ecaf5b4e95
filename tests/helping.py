"""What several tests need: the error that a call raises, sketches, and solids."""

from partloft.errors import LoftError
from partloft.grains import grain_at, grain_count, middle_of
from partloft.sketches import Sketch
from partloft.solids import Solid

OTHERS = {0: (1, 2), 1: (0, 2), 2: (0, 1)}


def refusal(work, *arguments):
    """The error that a call raises, as a tuple: its class's name and its attributes; None if it raises none."""
    try:
        work(*arguments)
    except LoftError as error:
        return (type(error).__name__,) + tuple(vars(error).values())
    return None


def sketch_of(points, lines=(), discs=(), constraints=(), axis=2, offset=0):
    """A sketch with these parts, added in this order."""
    sketch = Sketch(axis, offset)
    for u, v in points:
        sketch.add_point(u, v)
    for first, second in lines:
        sketch.add_line(first, second)
    for point, text in discs:
        sketch.add_disc(point, text)
    for constraint in constraints:
        sketch.add_constraint(*constraint)
    return sketch


def ring_of_lines(*places, axis=2, offset=0, discs=()):
    """A sketch with lines from each place to the next one, and from the last to the first."""
    return rings_of_lines(places, axis=axis, offset=offset, discs=discs)


def rings_of_lines(*rows, axis=2, offset=0, discs=()):
    """A sketch with such a ring of lines for each row of places."""
    sketch = Sketch(axis, offset)
    for row in rows:
        points = [sketch.add_point(u, v) for u, v in row]
        for at in range(len(points)):
            sketch.add_line(points[at], points[(at + 1) % len(points)])
    for u, v, text in discs:
        sketch.add_disc(sketch.add_point(u, v), text)
    return sketch


def rectangle(low_u, low_v, high_u, high_v):
    """The corners of a rectangle, in a row."""
    return ((low_u, low_v), (high_u, low_v), (high_u, high_v), (low_u, high_v))


def spotted(size, step, start=0):
    """A solid with grains at irregular distances."""
    return Solid(size, [grain for grain in range(grain_count(size)) if (grain * grain + start) % step == 0])


def block(size, low, high):
    """The grains of the cubes from low to high, without high."""
    return picked(size, lambda x, y, z: all(low[axis] < (x, y, z)[axis] < high[axis] for axis in range(3)))


def picked(size, holds):
    """The solid of the grains for whose middles, as floats that are exact, something holds."""
    found = []
    for grain in range(grain_count(size)):
        x, y, z = middle_of(size, grain)
        if holds(x / 8, y / 8, z / 8):
            found.append(grain)
    return Solid(size, found)


def middles(solid):
    return {middle_of(solid.size, grain) for grain in solid.grains()}


def solid_of(size, points):
    """The solid of those of the middles that lie in the room."""
    grains = [grain_at(size, *point) for point in points]
    return Solid(size, [grain for grain in grains if grain is not None])
