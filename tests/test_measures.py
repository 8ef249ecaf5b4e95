"""Point 79: measures of solids."""

import itertools
import math
import unittest
from fractions import Fraction

from helping import block, middles, picked, refusal, solid_of, spotted
from partloft.faces import boundary_of
from partloft.grains import corners_of, facet_corners, grain_count
from partloft.measures import area_of, centre_of, clearance, extent_of
from partloft.solids import Solid, empty, whole

SOLIDS = (
    whole(2), whole(3), Solid(2, [0]), Solid(2, [100]), spotted(2, 3), spotted(3, 5), block(3, (1, 0, 2), (2, 3, 3)),
    picked(3, lambda x, y, z: x + y <= 3), whole(3).less(block(3, (1, 1, 1), (2, 2, 2))),
)


def triangle(corners):
    """The area of a triangle with corners in halves of a unit."""
    first, second, third = corners
    one = [b - a for a, b in zip(first, second)]
    two = [b - a for a, b in zip(first, third)]
    normal = [one[k - 2] * two[k - 1] - one[k - 1] * two[k - 2] for k in range(3)]
    return math.sqrt(sum(k * k for k in normal)) / 2 / 4


class Areas(unittest.TestCase):
    def test_by_the_corners(self):
        for solid in SOLIDS:
            level = slanted = 0
            for grain, facet in boundary_of(solid):
                area = triangle(facet_corners(solid.size, grain, facet))
                if facet == 0:
                    level += area
                else:
                    slanted += area
            found = area_of(solid)
            self.assertAlmostEqual(found[0] / 4, level)
            self.assertAlmostEqual(found[1] * math.sqrt(2) / 8, slanted)

    def test_by_hand(self):
        self.assertEqual(area_of(empty(2)), (0, 0))
        self.assertEqual(area_of(whole(6)), (4 * 6 * 36, 0))
        self.assertEqual(area_of(block(3, (0, 0, 0), (1, 1, 2))), (4 * 10, 0))
        for grain in range(grain_count(2)):
            self.assertEqual(area_of(Solid(2, [grain])), (1, 4))
        # A wedge with two squares, two halves of a square, and a rectangle with a side of the root of 2.
        wedge = picked(2, lambda x, y, z: x + y <= 1 and z <= 1)
        self.assertEqual(area_of(wedge), (4 * 3, 8))


class Centres(unittest.TestCase):
    def test_means_of_middles(self):
        for solid in SOLIDS:
            there = sorted(middles(solid))
            means = [Fraction(sum(point[axis] for point in there), len(there)) for axis in range(3)]
            self.assertEqual(centre_of(solid), tuple((mean.numerator, mean.denominator) for mean in means))

    def test_by_hand(self):
        self.assertEqual(centre_of(whole(3)), ((12, 1), (12, 1), (12, 1)))
        self.assertEqual(centre_of(block(3, (1, 0, 0), (3, 1, 3))), ((16, 1), (4, 1), (12, 1)))
        self.assertEqual(centre_of(Solid(2, [0])), ((4, 1), (2, 1), (1, 1)))
        self.assertEqual(centre_of(Solid(2, [0, 1, 2])), ((6, 1), (8, 3), (1, 1)))

    def test_no_grains(self):
        for size in (2, 6):
            self.assertEqual(refusal(centre_of, empty(size)), ("NoGrains",))


class Clearances(unittest.TestCase):
    def clearance_slowly(self, one, other):
        for t in range(one.size + 1):
            for shift in itertools.product(range(-t, t + 1), repeat=3):
                goes = {tuple(a + 8 * b for a, b in zip(point, shift)) for point in middles(one)}
                if solid_of(one.size, goes).common(other).many():
                    return t
        return None

    def test_against_moved_solids(self):
        pairs = [(Solid(3, [0]), Solid(3, [grain])) for grain in range(0, 648, 37)]
        pairs += [(spotted(3, 41), Solid(3, [grain])) for grain in range(0, 648, 53)]
        pairs += [(block(3, (0, 0, 0), (1, 1, 1)), block(3, (2, 1, 0), (3, 2, 1))), (Solid(3, [1]), Solid(3, [2]))]
        seen = set()
        for one, other in pairs:
            found = clearance(one, other)
            self.assertEqual(found, self.clearance_slowly(one, other))
            self.assertEqual(clearance(other, one), found)
            seen.add(found)
        self.assertEqual(seen, {0, 1, 2, None})

    def test_by_hand(self):
        corner = block(6, (0, 0, 0), (1, 1, 1))
        for k in range(6):
            self.assertEqual(clearance(corner, block(6, (k, 0, 0), (k + 1, 1, 1))), k)
            self.assertEqual(clearance(corner, block(6, (5, k, 2), (6, k + 1, 3))), 5)
        self.assertEqual(clearance(whole(2), whole(2)), 0)
        # Grains of different sorts stay different however much they are moved.
        self.assertIsNone(clearance(Solid(2, [0]), Solid(2, [2])))

    def test_empty_solids(self):
        self.assertIsNone(clearance(empty(3), whole(3)))
        self.assertIsNone(clearance(whole(3), empty(3)))
        self.assertIsNone(clearance(empty(3), empty(3)))


class Extents(unittest.TestCase):
    def test_by_the_corners(self):
        for solid in SOLIDS:
            corners = [corner for grain in solid.grains() for corner in corners_of(solid.size, grain)]
            wanted = []
            for axis in range(3):
                coordinates = [Fraction(corner[axis], 2) for corner in corners]
                wanted.append((math.floor(min(coordinates)), math.ceil(max(coordinates))))
            self.assertEqual(extent_of(solid), tuple(wanted))

    def test_by_hand(self):
        self.assertEqual(extent_of(whole(6)), ((0, 6), (0, 6), (0, 6)))
        self.assertEqual(extent_of(block(4, (1, 0, 2), (2, 3, 4))), ((1, 2), (0, 3), (2, 4)))
        # Corners at halves are rounded away from the solid.
        for grain in range(grain_count(2)):
            cube = [min(corner[axis] for corner in corners_of(2, grain)) // 2 for axis in range(3)]
            self.assertEqual(extent_of(Solid(2, [grain])), tuple((low, low + 1) for low in cube))

    def test_no_grains(self):
        for size in (2, 6):
            self.assertEqual(refusal(extent_of, empty(size)), ("NoGrains",))


if __name__ == "__main__":
    unittest.main()
