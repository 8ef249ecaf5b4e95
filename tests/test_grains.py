"""Points 60 to 64: grains, their middles, corners, facets and neighbours."""

import unittest

from partloft.grains import (
    corners_of, direction_of, facet_corners, grain_at, grain_count, middle_of, neighbour_at, offset_of,
)

SIZES = (2, 3, 4, 5, 6)


def is_middle(point):
    """Point 61 in its own words."""
    remainders = [coordinate % 8 for coordinate in point]
    fours = [one for one in remainders if one == 4]
    seconds = [one for one in remainders if one in (2, 6)]
    thirds = [one for one in remainders if one in (1, 7)]
    return len(fours) == len(seconds) == len(thirds) == 1


def letters(point):
    """The axes A, B and C of a grain by its middle."""
    found = {}
    for axis in range(3):
        found[{4: "A", 2: "B", 6: "B", 1: "C", 7: "C"}[point[axis] % 8]] = axis
    return found["A"], found["B"], found["C"]


def subtracted(point, other):
    return tuple(one - two for one, two in zip(point, other))


def product(one, other):
    return sum(a * b for a, b in zip(one, other))


def cross(one, other):
    return (
        one[1] * other[2] - one[2] * other[1],
        one[2] * other[0] - one[0] * other[2],
        one[0] * other[1] - one[1] * other[0],
    )


class Point60(unittest.TestCase):
    def test_the_number_of_grains(self):
        self.assertEqual([grain_count(size) for size in SIZES], [192, 648, 1536, 3000, 5184])

    def test_grains_fill_the_room(self):
        for size in SIZES:
            volume = 0
            for grain in range(grain_count(size)):
                corners = corners_of(size, grain)
                sides = [subtracted(corner, corners[0]) for corner in corners[1:]]
                six_times = abs(product(sides[0], cross(sides[1], sides[2])))
                # A tetrahedron of one 24th of a cubic unit, in halves of a unit.
                self.assertEqual(six_times, 2)
                volume += six_times
            self.assertEqual(volume, 48 * size ** 3)

    def test_grains_lie_between_the_six_planes(self):
        """No plane through two opposite edges of the cube has corners of a grain on both sides."""
        for grain in range(grain_count(3)):
            low = [coordinate // 8 * 2 for coordinate in middle_of(3, grain)]
            corners = [subtracted(corner, low) for corner in corners_of(3, grain)]
            for one in range(3):
                for other in range(one):
                    for sides in ([c[one] - c[other] for c in corners], [c[one] + c[other] - 2 for c in corners]):
                        self.assertFalse(min(sides) < 0 < max(sides))


class Point61(unittest.TestCase):
    def test_each_middle_is_that_of_one_grain_in_ascending_order(self):
        for size in SIZES:
            places = range(-9, 8 * size + 10)
            middles = [(x, y, z) for z in range(8 * size + 1) for y in range(8 * size + 1) for x in range(8 * size + 1)
                       if is_middle((x, y, z))]
            self.assertEqual(len(middles), grain_count(size))
            for grain, middle in enumerate(middles):
                self.assertEqual(middle_of(size, grain), middle)
                self.assertEqual(grain_at(size, *middle), grain)
            if size == 2:
                there = set(middles)
                for point in [(x, y, z) for x in places for y in places for z in places]:
                    self.assertEqual(grain_at(size, *point) is not None, point in there, point)

    def test_the_first_and_the_last_grain(self):
        self.assertEqual(middle_of(2, 0), (4, 2, 1))
        self.assertEqual(middle_of(2, 1), (12, 2, 1))
        self.assertEqual(middle_of(2, 2), (2, 4, 1))
        self.assertEqual(middle_of(2, 191), (12, 14, 15))
        self.assertEqual(middle_of(6, 5183), (44, 46, 47))

    def test_points_that_are_no_middles(self):
        for point in ((4, 4, 1), (4, 2, 2), (0, 2, 1), (4, 2, 0), (4, 2, 3), (4, 2, 5), (1, 7, 4), (2, 6, 4), (0, 0, 0),
                      (8, 2, 1), (16, 16, 16), (4, 1, 7), (3, 2, 1)):
            self.assertIsNone(grain_at(2, *point), point)

    def test_points_out_of_the_room(self):
        for size in SIZES:
            top = 8 * size
            self.assertIsNotNone(grain_at(size, 4, 2, 1))
            for point in ((4, 2, -1), (4, -2, 1), (-4, 2, 1), (4, 2, top + 1), (4, top + 2, 1), (top + 4, 2, 1),
                          (4, 2, -7), (4 - 8 * size, 2, 1), (10 ** 9 + 4, 2, 1), (4, -10 ** 9 + 2, 1)):
                self.assertIsNone(grain_at(size, *point), point)


class Point62(unittest.TestCase):
    def test_corners_in_their_order(self):
        for size in SIZES:
            for grain in range(grain_count(size)):
                middle = middle_of(size, grain)
                a, b, c = letters(middle)
                cube = [coordinate // 8 for coordinate in middle]
                near_b = 2 * cube[b] + (0 if middle[b] % 8 == 2 else 2)
                near_c = 2 * cube[c] + (0 if middle[c] % 8 == 1 else 2)
                wanted = [[0, 0, 0] for _ in range(4)]
                for corner, (at_a, at_b, at_c) in enumerate((
                    (2 * cube[a], near_b, near_c),
                    (2 * cube[a] + 2, near_b, near_c),
                    (2 * cube[a] + 1, 2 * cube[b] + 1, near_c),
                    (2 * cube[a] + 1, 2 * cube[b] + 1, 2 * cube[c] + 1),
                )):
                    wanted[corner][a], wanted[corner][b], wanted[corner][c] = at_a, at_b, at_c
                self.assertEqual(corners_of(size, grain), tuple(tuple(corner) for corner in wanted))

    def test_the_middle_is_the_centre_of_gravity(self):
        for grain in range(grain_count(4)):
            corners = corners_of(4, grain)
            # Halves summed over four corners are eighths of the mean.
            self.assertEqual(tuple(sum(corner[axis] for corner in corners) for axis in range(3)), middle_of(4, grain))

    def test_some_corners(self):
        self.assertEqual(corners_of(2, 0), ((0, 0, 0), (2, 0, 0), (1, 1, 0), (1, 1, 1)))
        self.assertEqual(corners_of(2, grain_at(2, 15, 12, 14)), ((4, 2, 4), (4, 4, 4), (4, 3, 3), (3, 3, 3)))


class Point63(unittest.TestCase):
    def test_the_corners_of_each_facet(self):
        for size in (2, 3, 6):
            for grain in range(grain_count(size)):
                first, second, third, fourth = corners_of(size, grain)
                self.assertEqual(facet_corners(size, grain, 0), (first, second, third))
                self.assertEqual(facet_corners(size, grain, 1), (first, second, fourth))
                self.assertEqual(facet_corners(size, grain, 2), (first, third, fourth))
                self.assertEqual(facet_corners(size, grain, 3), (second, third, fourth))

    def test_each_neighbour_has_the_facet_with_the_opposite_direction(self):
        for size in SIZES:
            for grain in range(grain_count(size)):
                for facet in range(4):
                    other = neighbour_at(size, grain, facet)
                    if other is None:
                        continue
                    self.assertNotEqual(other, grain)
                    corners = sorted(facet_corners(size, grain, facet))
                    backs = [back for back in range(4) if sorted(facet_corners(size, other, back)) == corners]
                    self.assertEqual(len(backs), 1)
                    self.assertEqual(neighbour_at(size, other, backs[0]), grain)
                    direction = direction_of(size, grain, facet)
                    self.assertEqual(direction_of(size, other, backs[0]), tuple(-one for one in direction))
                    self.assertEqual(offset_of(size, other, backs[0]), -offset_of(size, grain, facet))

    def test_only_facets_0_on_the_border_have_no_neighbour(self):
        for size in SIZES:
            for grain in range(grain_count(size)):
                for facet in range(4):
                    corners = facet_corners(size, grain, facet)
                    on_border = any(len({corner[axis] for corner in corners}) == 1 and corners[0][axis] in (0, 2 * size)
                                    for axis in range(3))
                    self.assertEqual(neighbour_at(size, grain, facet) is None, on_border)
                    if on_border:
                        self.assertEqual(facet, 0)

    def test_neighbours_in_the_words_of_the_document(self):
        size = 3
        for grain in range(grain_count(size)):
            middle = middle_of(size, grain)
            a, b, c = letters(middle)
            mirrored = list(middle)
            mirrored[c] += -2 if middle[c] % 8 == 1 else 2
            self.assertEqual(neighbour_at(size, grain, 0), grain_at(size, *mirrored))
            exchanged = list(middle)
            exchanged[b] = middle[b] // 8 * 8 + {2: 1, 6: 7}[middle[b] % 8]
            exchanged[c] = middle[c] // 8 * 8 + {1: 2, 7: 6}[middle[c] % 8]
            self.assertEqual(neighbour_at(size, grain, 1), grain_at(size, *exchanged))
            for facet, near in ((2, 2), (3, 6)):
                beside = list(middle)
                beside[b] = middle[b] // 8 * 8 + 4
                beside[a] = middle[a] // 8 * 8 + near
                self.assertEqual(neighbour_at(size, grain, facet), grain_at(size, *beside))


class Point64(unittest.TestCase):
    def test_directions_in_the_words_of_the_document(self):
        size = 3
        for grain in range(grain_count(size)):
            middle = middle_of(size, grain)
            a, b, c = letters(middle)
            of_b = 1 if middle[b] % 8 == 2 else -1
            of_c = 1 if middle[c] % 8 == 1 else -1
            wanted = [[0, 0, 0] for _ in range(4)]
            wanted[0][c] = -of_c
            wanted[1][b], wanted[1][c] = -of_b, of_c
            wanted[2][a], wanted[2][b] = -1, of_b
            wanted[3][a], wanted[3][b] = 1, of_b
            for facet in range(4):
                self.assertEqual(direction_of(size, grain, facet), tuple(wanted[facet]))

    def test_directions_are_perpendicular_and_point_out(self):
        for size in SIZES:
            for grain in range(grain_count(size)):
                corners = corners_of(size, grain)
                for facet in range(4):
                    direction = direction_of(size, grain, facet)
                    first, second, third = facet_corners(size, grain, facet)
                    self.assertEqual(product(direction, subtracted(second, first)), 0)
                    self.assertEqual(product(direction, subtracted(third, first)), 0)
                    other = [corner for corner in corners if corner not in (first, second, third)][0]
                    self.assertLess(product(direction, subtracted(other, first)), 0)

    def test_offsets(self):
        for size in SIZES:
            for grain in range(grain_count(size)):
                for facet in range(4):
                    direction = direction_of(size, grain, facet)
                    offset = offset_of(size, grain, facet)
                    self.assertIs(type(offset), int)
                    for corner in facet_corners(size, grain, facet):
                        self.assertEqual(product(direction, corner), 2 * offset)


if __name__ == "__main__":
    unittest.main()
