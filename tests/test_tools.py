"""Points 110 and 111: what a tool takes at places and on steps."""

import itertools
import unittest

import plain_cuts
from helping import refusal
from partloft.grains import middle_of
from partloft.solids import Solid, empty, whole
from partloft.tools import in_disc, taken_at, taken_on


class Discs(unittest.TestCase):
    def test_all_points_near_a_disc(self):
        for radius in (1, 2, 3):
            for du, dv in itertools.product(range(-30, 31), repeat=2):
                self.assertIs(in_disc(radius, du, dv), plain_cuts.disc_has(radius, du, dv))

    def test_borders(self):
        # The sums are at most 1, 3 and 4 units.
        for radius, du, dv, wanted in (
                (1, 8, 0, True), (1, 9, 0, False), (1, 0, -8, True), (1, 0, -9, False), (1, 4, -4, True), (1, -4, 5, False),
                (2, 16, 8, True), (2, 16, 9, False), (2, 17, 0, False), (2, 12, 12, True), (2, -12, 13, False), (2, 0, 17, False),
                (3, 24, 8, True), (3, 24, 9, False), (3, -16, -16, True), (3, 16, -17, False), (3, 25, 0, False)):
            self.assertIs(in_disc(radius, du, dv), wanted)

    def test_far_points(self):
        self.assertIs(in_disc(3, 1000, 0), False)
        self.assertIs(in_disc(3, 0, -1000), False)


class Places(unittest.TestCase):
    def test_all_places(self):
        for size, radius in ((2, 1), (2, 2), (2, 3), (3, 1), (3, 2), (3, 3)):
            for place in plain_cuts.places_of(size):
                wanted = Solid(size, sorted(plain_cuts.taken(size, radius, place)))
                self.assertEqual(taken_at(size, radius, place), wanted)

    def test_large_rooms(self):
        for size, radius, place in ((4, 1, (4, 2, 1)), (5, 3, (0, 5, 2)), (6, 2, (3, 3, 0)), (6, 3, (6, 0, 5))):
            wanted = Solid(size, sorted(plain_cuts.taken(size, radius, place)))
            self.assertEqual(taken_at(size, radius, place), wanted)

    def test_by_hand(self):
        self.assertEqual(taken_at(2, 2, (1, 1, 0)), whole(2))
        # A disc of the radius 1 is half as large as the square around it.
        self.assertEqual(taken_at(2, 1, (1, 1, 0)).many(), 96)
        self.assertEqual(taken_at(2, 1, (0, 0, 1)).many(), 12)
        for x, y in itertools.product(range(4), repeat=2):
            self.assertEqual(taken_at(3, 3, (x, y, 3)), empty(3))
        self.assertTrue(all(middle_of(3, grain)[2] > 8 for grain in taken_at(3, 3, (1, 1, 1)).grains()))
        self.assertEqual(taken_at(3, 3, (1, 1, 1)).many(), 24 * 18)

    def test_what_is_refused(self):
        for radius in (0, 4, -1, 100):
            self.assertEqual(refusal(taken_at, 2, radius, (0, 0, 3)), ("InvalidRadius", radius))
        for place in ((3, 0, 0), (0, 3, 0), (0, 0, 3), (-1, 0, 0), (0, -1, 0), (0, 0, -1), (9, 9, 9)):
            self.assertEqual(refusal(taken_at, 2, 1, place), ("NoSuchPlace", place))
        self.assertIsNone(refusal(taken_at, 6, 3, (6, 6, 6)))
        self.assertIsNone(refusal(taken_at, 6, 1, (0, 0, 0)))


class Steps(unittest.TestCase):
    def test_all_steps(self):
        for size, radius in ((2, 1), (2, 2), (2, 3), (3, 1), (3, 2), (3, 3)):
            for place, other in plain_cuts.steps_of(size):
                wanted = Solid(size, sorted(plain_cuts.taken(size, radius, place, other)))
                self.assertEqual(taken_on(size, radius, place, other), wanted)

    def test_large_rooms(self):
        for size, radius, place, other in ((4, 1, (4, 2, 1), (4, 1, 1)), (5, 2, (2, 2, 3), (3, 2, 3)), (6, 3, (0, 0, 4), (0, 0, 3))):
            wanted = Solid(size, sorted(plain_cuts.taken(size, radius, place, other)))
            self.assertEqual(taken_on(size, radius, place, other), wanted)

    def test_more_is_taken_than_at_both_places(self):
        both = taken_at(3, 1, (1, 1, 0)).united(taken_at(3, 1, (2, 1, 0)))
        on = taken_on(3, 1, (1, 1, 0), (2, 1, 0))
        self.assertEqual(both.less(on), empty(3))
        # Between the places the disc moves two triangles further, each a quarter of a unit square.
        self.assertEqual(on.less(both).many(), 3 * 12)
        self.assertEqual(on.many(), 3 * 24 * 4)

    def test_a_step_up_takes_what_is_taken_below(self):
        for radius in (1, 2, 3):
            for other in ((1, 2, 1), (1, 2, 2)):
                place = (1, 2, 3 - other[2])
                self.assertEqual(taken_on(3, radius, place, other), taken_at(3, radius, (1, 2, 1)))

    def test_what_is_refused(self):
        for radius in (0, 4, -3):
            self.assertEqual(refusal(taken_on, 2, radius, (0, 0, 3), (0, 0, 9)), ("InvalidRadius", radius))
        self.assertEqual(refusal(taken_on, 2, 1, (0, 0, 3), (0, 0, 2)), ("NoSuchPlace", (0, 0, 3)))
        self.assertEqual(refusal(taken_on, 2, 1, (0, 0, 2), (0, 0, 3)), ("NoSuchPlace", (0, 0, 3)))
        self.assertEqual(refusal(taken_on, 2, 1, (0, -1, 2), (0, 0, 3)), ("NoSuchPlace", (0, -1, 2)))
        self.assertEqual(refusal(taken_on, 2, 1, (2, 2, 2), (3, 3, 3)), ("NoSuchPlace", (3, 3, 3)))
        for place, other in (((0, 0, 0), (0, 0, 0)), ((0, 0, 0), (1, 1, 0)), ((0, 0, 0), (2, 0, 0)), ((1, 0, 2), (1, 0, 0)),
                             ((1, 1, 1), (0, 0, 0)), ((2, 1, 0), (1, 2, 0))):
            self.assertEqual(refusal(taken_on, 2, 1, place, other), ("NoStep", place, other))
            self.assertEqual(refusal(taken_on, 2, 1, other, place), ("NoStep", other, place))


if __name__ == "__main__":
    unittest.main()
