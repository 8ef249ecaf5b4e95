"""Points 140 to 144: views, strokes and sections."""

import functools
import itertools
import random
import unittest

from helping import OTHERS, block, picked, spotted
from partloft.faces import faces_of
from partloft.grains import direction_of, grain_count, middle_of, neighbour_at, offset_of
from partloft.solids import Solid, empty, whole
from partloft.views import section, shown, strokes

POINTS = ((3, 1), (5, 1), (7, 3), (7, 5), (5, 7), (3, 7), (1, 5), (1, 3))


def some_solids():
    yield from (empty(2), whole(2), Solid(2, [0]), Solid(2, [100]), spotted(2, 3), spotted(2, 5, 1).rest())
    yield from (whole(3), empty(3), spotted(3, 4), spotted(3, 20), block(3, (0, 1, 0), (2, 3, 2)))
    yield picked(3, lambda x, y, z: x + y + z <= 5)
    yield picked(2, lambda x, y, z: x + z <= 2)
    yield block(3, (0, 0, 0), (3, 1, 1)).united(block(3, (0, 2, 1), (1, 3, 3)))
    yield whole(3).less(block(3, (1, 1, 0), (2, 2, 3)))


@functools.lru_cache(maxsize=None)
def line_through(size, axis, u, v, above):
    """The grains on a line along an axis with the facets by which it enters them, in the order of the line.

    A grain lies on the inner side of each of its facets; each of these bounds a part of the line.
    """
    first, second = OTHERS[axis]
    found = []
    for grain in range(grain_count(size)):
        lows, highs, beside = [], [], False
        for facet in range(4):
            direction = direction_of(size, grain, facet)
            room = 8 * offset_of(size, grain, facet) - direction[first] * u - direction[second] * v
            if direction[axis] == 0:
                beside = beside or room < 0
            elif direction[axis] < 0:
                lows.append((-room, facet))
            else:
                highs.append((room, facet))
        if not beside and max(lows)[0] < min(highs)[0]:
            low, high = max(lows), min(highs)
            found.append((-high[0], grain, high[1]) if above else (low[0], grain, low[1]))
    return [(grain, facet) for _, grain, facet in sorted(found)]


def shown_slowly(solid, axis, above):
    numbers = {facet: number for number, face in enumerate(faces_of(solid)) for facet in face[2]}
    picture = {}
    for u, v, piece in itertools.product(range(solid.size), range(solid.size), range(8)):
        line = line_through(solid.size, axis, 8 * u + POINTS[piece][0], 8 * v + POINTS[piece][1], above)
        met = [facet for facet in line if solid.has(facet[0])]
        if met:
            picture[(u, v, piece)] = numbers[met[0]]
    return picture


def octant(du, dv):
    return (du > 0, dv > 0, abs(du) > abs(dv))


OCTANTS = [octant(u - 4, v - 4) for u, v in POINTS]


def number_at(size, picture, u, v):
    """What is shown at a point in eighths that lies on no side."""
    if not (0 < u < 8 * size and 0 < v < 8 * size):
        return None
    piece = OCTANTS.index(octant(u % 8 - 4, v % 8 - 4))
    return picture.get((u // 8, v // 8, piece))


def all_sides(size):
    """All sides as (u, v, du, dv), in halves."""
    for u, v in itertools.product(range(2 * size + 1), repeat=2):
        for du, dv in ((1, 0), (0, 1), (1, 1), (1, -1)):
            inside = u + du <= 2 * size and 0 <= v + dv <= 2 * size
            # Diagonals begin or end in the middle of a square, and so where both numbers are odd or both even.
            if inside and (du == 0 or dv == 0 or (u + v) % 2 == 0):
                yield u, v, du, dv


def strokes_slowly(size, picture):
    drawn = {}
    for u, v, du, dv in all_sides(size):
        # Two points near the middle of the side, one on each side of it, in sixteenths of a unit.
        middle_u, middle_v = 8 * u + 4 * du, 8 * v + 4 * dv
        numbers = [number_at(size, picture, (middle_u - k * dv) / 2, (middle_v + k * du) / 2) for k in (-1, 1)]
        drawn[(u, v, du, dv)] = numbers[0] != numbers[1]
    found = []
    for direction in ((1, 0), (0, 1), (1, 1), (1, -1)):
        du, dv = direction
        rows = []
        for u, v in itertools.product(range(2 * size + 1), repeat=2):
            if drawn.get((u, v, du, dv)) and not drawn.get((u - du, v - dv, du, dv)):
                end = (u, v)
                while drawn.get((*end, du, dv)):
                    end = (end[0] + du, end[1] + dv)
                rows.append((u, v, *end))
        found += sorted(rows, key=lambda row: (row[1], row[0]))
    return found


class Lines(unittest.TestCase):
    """The lines of point 141, and what the slow way makes of them."""

    def test_a_line_passes_five_grains_of_each_cube(self):
        for axis in (0, 1, 2):
            for u, v in POINTS:
                line = line_through(2, axis, u, v + 8, False)
                self.assertEqual(len(line), 10)
                cubes = [middle_of(2, grain)[axis] // 8 for grain, _ in line]
                self.assertEqual(cubes, [0] * 5 + [1] * 5)
                self.assertEqual([grain for grain, _ in line_through(2, axis, u, v + 8, True)], [grain for grain, _ in line][::-1])
                for (one, _), (other, facet) in zip(line, line[1:]):
                    self.assertEqual(neighbour_at(2, other, facet), one)


class Views(unittest.TestCase):
    def test_against_lines(self):
        for solid in some_solids():
            for axis in (0, 1, 2):
                for above in (False, True):
                    self.assertEqual(shown(solid, axis, above), shown_slowly(solid, axis, above))

    def test_solids_by_chance(self):
        rng = random.Random(60)
        for size in (2, 3, 3, 3):
            for part in (0.03, 0.1, 0.3, 0.5):
                solid = Solid(size, [grain for grain in range(grain_count(size)) if rng.random() < part])
                for axis in (0, 1, 2):
                    for above in (False, True):
                        self.assertEqual(shown(solid, axis, above), shown_slowly(solid, axis, above))

    def test_nothing_and_everything(self):
        for size in (2, 3, 6):
            for axis in (0, 1, 2):
                for above in (False, True):
                    self.assertEqual(shown(empty(size), axis, above), {})
                    picture = shown(whole(size), axis, above)
                    self.assertEqual(len(picture), 8 * size * size)
                    direction = [0, 0, 0]
                    direction[axis] = 1 if above else -1
                    wanted = [face[0] for face in faces_of(whole(size))].index(tuple(direction))
                    self.assertEqual(set(picture.values()), {wanted})

    def test_a_step(self):
        # Two blocks of different heights beside each other.
        solid = block(2, (0, 0, 0), (1, 2, 1)).united(block(2, (1, 0, 0), (2, 2, 2)))
        faces = [face[:2] for face in faces_of(solid)]
        picture = shown(solid, 2, True)
        self.assertEqual({picture[(0, v, piece)] for v in range(2) for piece in range(8)}, {faces.index(((0, 0, 1), 1))})
        self.assertEqual({picture[(1, v, piece)] for v in range(2) for piece in range(8)}, {faces.index(((0, 0, 1), 2))})
        self.assertEqual(set(shown(solid, 2, False).values()), {faces.index(((0, 0, -1), 0))})
        side = shown(solid, 0, False)
        # u and v are the axes 1 and 2.
        self.assertEqual(side[(1, 0, 0)], faces.index(((-1, 0, 0), 0)))
        self.assertEqual(side[(1, 1, 0)], faces.index(((-1, 0, 0), -1)))

    def test_one_grain(self):
        # The grain 0 lies over the quarter 0 of the square; its facet 1 rises from the edge to the middle of the cube.
        grain = Solid(2, [0])
        self.assertEqual([facets for _, _, facets in faces_of(grain)], [((0, 0),), ((0, 1),), ((0, 2),), ((0, 3),)])
        self.assertEqual(shown(grain, 2, False), {(0, 0, 0): 0, (0, 0, 1): 0})
        self.assertEqual(shown(grain, 2, True), {(0, 0, 0): 1, (0, 0, 1): 1})
        self.assertEqual(shown(grain, 0, False), {(0, 0, 0): 2})
        self.assertEqual(shown(grain, 0, True), {(0, 0, 0): 3})
        self.assertEqual(shown(grain, 1, False), {(0, 0, 0): 1, (0, 0, 1): 1})
        self.assertEqual(shown(grain, 1, True), {(0, 0, 0): 2, (0, 0, 1): 3})

    def test_half_a_square(self):
        # All pieces on one side of a diagonal are covered, and the pieces on the other side show nothing.
        wedge = picked(2, lambda x, y, z: x + y <= 1)
        self.assertEqual(sorted(piece for u, v, piece in shown(wedge, 2, True)), [0, 1, 6, 7])
        self.assertEqual({(u, v) for u, v, _ in shown(wedge, 2, True)}, {(0, 0)})

    def test_new_dicts_are_returned(self):
        solid = spotted(2, 3)
        first = shown(solid, 1, True)
        shown(solid, 1, True).clear()
        self.assertEqual(shown(solid, 1, True), first)
        self.assertEqual(solid, spotted(2, 3))


class Strokes(unittest.TestCase):
    def test_against_points_beside_all_sides(self):
        for solid in some_solids():
            for axis in (0, 1, 2):
                for above in (False, True):
                    picture = shown(solid, axis, above)
                    before = dict(picture)
                    self.assertEqual(strokes(solid.size, picture), strokes_slowly(solid.size, picture))
                    self.assertEqual(picture, before)

    def test_any_pictures(self):
        for size in (2, 3):
            keys = list(itertools.product(range(size), range(size), range(8)))
            for step in (2, 3, 5, 7):
                picture = {key: at * at % step for at, key in enumerate(keys) if at % (step + 1)}
                self.assertEqual(strokes(size, picture), strokes_slowly(size, picture))
            self.assertEqual(strokes(size, {}), [])

    def test_the_whole_room(self):
        for size in (2, 3, 6):
            end = 2 * size
            self.assertEqual(strokes(size, shown(whole(size), 1, True)),
                             [(0, 0, end, 0), (0, end, end, end), (0, 0, 0, end), (end, 0, end, end)])

    def test_by_hand(self):
        triangle = {(0, 0, 0): 4}
        self.assertEqual(strokes(2, triangle), [(0, 0, 1, 0), (1, 0, 1, 1), (0, 0, 1, 1)])
        falling = {(0, 0, 1): 4}
        self.assertEqual(strokes(2, falling), [(1, 0, 2, 0), (1, 0, 1, 1), (1, 1, 2, 0)])
        halves = {(0, 0, piece): piece // 4 for piece in range(8)}
        # Pieces 0 to 3 and 4 to 7 meet at the diagonal through the lesser corner.
        self.assertEqual(strokes(2, halves), [(0, 0, 2, 0), (0, 2, 2, 2), (0, 0, 0, 2), (2, 0, 2, 2), (0, 0, 2, 2)])
        other = {(1, 1, piece): (piece + 6) % 8 // 4 for piece in range(8)}
        self.assertEqual(strokes(2, other), [(2, 2, 4, 2), (2, 4, 4, 4), (2, 2, 2, 4), (4, 2, 4, 4), (2, 4, 4, 2)])

    def test_rows_that_are_interrupted(self):
        # Squares with one number each; sides between equal ones are not drawn.
        squares = {(0, 0): 1, (1, 0): 2, (2, 0): 3, (0, 1): 4, (1, 1): 2, (2, 1): 5, (0, 2): 6, (1, 2): 6, (2, 2): 6}
        picture = {(u, v, piece): number for (u, v), number in squares.items() for piece in range(8)}
        self.assertEqual(strokes(3, picture), [
            (0, 0, 6, 0), (0, 2, 2, 2), (4, 2, 6, 2), (0, 4, 6, 4), (0, 6, 6, 6),
            (0, 0, 0, 6), (2, 0, 2, 4), (4, 0, 4, 4), (6, 0, 6, 6)])

    def test_a_hole(self):
        solid = whole(3).less(block(3, (1, 1, 0), (2, 2, 3)))
        self.assertEqual(strokes(3, shown(solid, 2, True)), [
            (0, 0, 6, 0), (2, 2, 4, 2), (2, 4, 4, 4), (0, 6, 6, 6), (0, 0, 0, 6), (6, 0, 6, 6), (2, 2, 2, 4), (4, 2, 4, 4)])


class Sections(unittest.TestCase):
    def test_against_facets(self):
        for solid in some_solids():
            for axis in (0, 1, 2):
                for at in range(1, solid.size):
                    both = one = 0
                    direction = [0, 0, 0]
                    direction[axis] = 1
                    for grain in range(grain_count(solid.size)):
                        if direction_of(solid.size, grain, 0) == tuple(direction) and offset_of(solid.size, grain, 0) == at:
                            many = solid.has(grain) + solid.has(neighbour_at(solid.size, grain, 0))
                            both += many == 2
                            one += many == 1
                    self.assertEqual(section(solid, axis, at), (both, one))

    def test_by_hand(self):
        self.assertEqual(section(whole(3), 0, 1), (36, 0))
        self.assertEqual(section(empty(3), 0, 1), (0, 0))
        solid = block(3, (0, 0, 0), (2, 3, 1)).united(block(3, (0, 0, 1), (1, 3, 3)))
        self.assertEqual([section(solid, 2, at) for at in (1, 2)], [(12, 12), (12, 0)])
        self.assertEqual([section(solid, 0, at) for at in (1, 2)], [(12, 24), (0, 12)])
        self.assertEqual([section(solid, 1, at) for at in (1, 2)], [(16, 0), (16, 0)])
        self.assertEqual(section(Solid(2, [0]), 2, 1), (0, 0))
        self.assertEqual(section(Solid(2, [95]), 2, 1), (0, 1))
        self.assertEqual(section(Solid(2, [95, 96]), 2, 1), (0, 2))


if __name__ == "__main__":
    unittest.main()
