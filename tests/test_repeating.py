"""Point 50: rows, rings and mirrors."""

import unittest

from helping import OTHERS, block, middles, refusal, solid_of, spotted
from partloft.repeating import mirror_of, ring_of, row_of
from partloft.solids import Solid, empty, whole


def moved(points, dx, dy, dz):
    return {(x + 8 * dx, y + 8 * dy, z + 8 * dz) for x, y, z in points}


def quarter_turned(points, axis, p, q):
    """The quarter turn in the words of the document, of points in eighths."""
    found = set()
    first, second = OTHERS[axis]
    for point in points:
        u, v = point[first], point[second]
        goes = list(point)
        goes[first] = 8 * (p + q) // 2 - v
        goes[second] = 8 * (q - p) // 2 + u
        found.add(tuple(goes))
    return found


class Rows(unittest.TestCase):
    def test_rows(self):
        solids = [spotted(3, 11), block(3, (0, 0, 0), (1, 1, 1)), block(3, (2, 0, 1), (3, 1, 2)), whole(3), empty(3)]
        steps = ((1, 0, 0), (0, -1, 0), (0, 0, 1), (1, 1, 0), (-1, 1, 1), (2, 0, 0), (0, 0, 0), (-1, 0, 0), (3, 0, 0),
                 (-200, 200, 7))
        for solid in solids:
            for step in steps:
                for count in (2, 3, 4, 5, 64):
                    there = middles(solid)
                    wanted = set(there)
                    for times in range(1, count):
                        wanted |= moved(there, *[times * one for one in step])
                    self.assertEqual(row_of(solid, count, *step), solid_of(3, wanted), (step, count))
                    self.assertEqual(middles(solid), there)

    def test_by_hand(self):
        corner = block(6, (0, 0, 0), (1, 1, 1))
        self.assertEqual(row_of(corner, 2, 1, 0, 0), block(6, (0, 0, 0), (2, 1, 1)))
        self.assertEqual(row_of(corner, 6, 0, 1, 0), block(6, (0, 0, 0), (1, 6, 1)))
        self.assertEqual(row_of(corner, 5, 0, 1, 0), block(6, (0, 0, 0), (1, 5, 1)))
        self.assertEqual(row_of(corner, 64, 0, 0, 5), corner.united(block(6, (0, 0, 5), (1, 1, 6))))
        self.assertEqual(row_of(corner, 3, 0, 0, 2), row_of(corner, 2, 0, 0, 2).united(block(6, (0, 0, 4), (1, 1, 5))))

    def test_counts_from_2_to_64(self):
        solid = spotted(2, 5)
        for count in (1, 0, -1, 65, 200, -200):
            self.assertEqual(refusal(row_of, solid, count, 1, 0, 0), ("FieldFault", 0))
            self.assertEqual(refusal(row_of, solid, count, 0, 0, 0), ("FieldFault", 0))
        for count in (2, 64):
            self.assertIsNone(refusal(row_of, solid, count, 1, 0, 0))


class Rings(unittest.TestCase):
    def test_the_example_of_the_document(self):
        body = block(2, (0, 0, 0), (1, 1, 2))
        self.assertEqual(ring_of(body, 2, 2, 0, 4), body.united(block(2, (1, 0, 0), (2, 1, 2))))
        self.assertEqual(ring_of(body, 2, 2, 0, 3), body)
        self.assertEqual(ring_of(body, 2, 2, 0, 2), body)

    def test_rings(self):
        for solid in (spotted(3, 23), block(3, (0, 0, 0), (1, 2, 1)), Solid(3, [5, 100, 333]), whole(3), empty(3)):
            for axis in range(3):
                for p, q in ((3, 3), (0, 0), (2, 4), (1, 3), (-1, 3), (5, 1), (6, 0), (2, 2), (-200, 200), (4, -2)):
                    for count in (2, 3, 4):
                        there = middles(solid)
                        wanted = set(there)
                        goes = there
                        for _ in range(1, count):
                            goes = quarter_turned(goes, axis, p, q)
                            wanted |= goes
                        self.assertEqual(ring_of(solid, axis, p, q, count), solid_of(3, wanted), (axis, p, q, count))
                        self.assertEqual(middles(solid), there)

    def test_by_hand(self):
        # About the middle of the room, whose coordinates are halves.
        for axis in range(3):
            first, second = OTHERS[axis]
            low, high = [0, 0, 0], [1, 1, 1]
            high[first] = 2
            beam = block(3, low, high)
            goes_low, goes_high = [0, 0, 0], [1, 1, 1]
            goes_low[first], goes_high[first], goes_high[second] = 2, 3, 2
            self.assertEqual(ring_of(beam, axis, 3, 3, 2), beam.united(block(3, goes_low, goes_high)))
            self.assertEqual(ring_of(beam, axis, 3, 3, 4).many(), 24 * 8)

    def test_which_error_comes_first(self):
        solid = spotted(2, 5)
        for axis in (-1, 3, 200):
            self.assertEqual(refusal(ring_of, solid, axis, 1, 0, 9), ("FieldFault", 0))
            self.assertEqual(refusal(ring_of, solid, axis, 1, 1, 2), ("FieldFault", 0))
        for p, q in ((1, 0), (0, 1), (-1, 2), (-3, 0), (200, 199)):
            self.assertEqual(refusal(ring_of, solid, 0, p, q, 9), ("FieldFault", 2))
            self.assertEqual(refusal(ring_of, solid, 2, p, q, 3), ("FieldFault", 2))
        for count in (1, 5, 0, -2):
            self.assertEqual(refusal(ring_of, solid, 1, 1, -1, count), ("FieldFault", 3))
        for axis in (0, 1, 2):
            for count in (2, 3, 4):
                self.assertIsNone(refusal(ring_of, solid, axis, 1, -3, count))


class Mirrors(unittest.TestCase):
    def test_mirrors(self):
        for solid in (spotted(3, 23), block(3, (0, 0, 0), (1, 2, 1)), whole(3), empty(3)):
            for axis in range(3):
                for p in (3, 0, 1, 2, 4, 5, 6, -1, 200, -200):
                    wanted = set()
                    for point in middles(solid):
                        goes = list(point)
                        goes[axis] = 8 * p - point[axis]
                        wanted.add(tuple(goes))
                    self.assertEqual(mirror_of(solid, axis, p), solid_of(3, wanted))

    def test_the_body_itself_is_not_in_it(self):
        corner = block(3, (0, 0, 0), (1, 1, 1))
        self.assertEqual(mirror_of(corner, 1, 3), block(3, (0, 2, 0), (1, 3, 1)))
        self.assertEqual(mirror_of(corner, 1, 1), corner)
        self.assertEqual(mirror_of(corner, 1, 0), empty(3))

    def test_axes_beyond_the_bounds(self):
        for axis in (-1, 3, 200):
            self.assertEqual(refusal(mirror_of, spotted(2, 5), axis, 1), ("FieldFault", 0))


if __name__ == "__main__":
    unittest.main()
