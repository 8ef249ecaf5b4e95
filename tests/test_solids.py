"""Points 65 to 68: solids."""

import itertools
import unittest

from helping import block, middles, refusal, solid_of, spotted
from partloft.grains import corners_of, grain_at, grain_count, neighbour_at
from partloft.solids import Solid, empty, whole


def shifted(points, shift):
    return {tuple(point[axis] + 8 * shift[axis] for axis in range(3)) for point in points}


class Point65(unittest.TestCase):
    """A solid is a set of grains of a room."""

    def test_lists_in_any_order_with_repeated_grains(self):
        solid = Solid(2, [9, 3, 100, 3, 0, 9])
        self.assertEqual(solid.grains(), [0, 3, 9, 100])
        self.assertEqual(solid.many(), 4)
        self.assertEqual(solid.size, 2)
        self.assertEqual(solid, Solid(2, [0, 3, 9, 100]))

    def test_the_passed_list_stays_and_is_copied(self):
        grains = [9, 3, 3]
        solid = Solid(2, grains)
        self.assertEqual(grains, [9, 3, 3])
        grains.append(5)
        self.assertEqual(solid.grains(), [3, 9])
        self.assertFalse(solid.has(5))

    def test_the_returned_list_is_a_copy(self):
        solid = Solid(2, [3, 9])
        solid.grains().append(5)
        self.assertEqual(solid.grains(), [3, 9])
        solid.grains().pop()
        self.assertEqual(solid.grains(), [3, 9])
        self.assertEqual(solid.many(), 2)

    def test_equality(self):
        self.assertTrue(Solid(2, [1, 2]) == Solid(2, [2, 1, 1]))
        self.assertFalse(Solid(2, [1, 2]) == Solid(2, [1]))
        self.assertFalse(Solid(2, [1, 2]) == Solid(2, [1, 3]))
        self.assertFalse(Solid(2, [1, 2]) == Solid(3, [1, 2]))
        self.assertFalse(empty(2) == empty(3))
        self.assertTrue(Solid(2, [1, 2]) != Solid(2, [1, 3]))
        self.assertFalse(Solid(2, [1, 2]) != Solid(2, [1, 2]))
        self.assertFalse(Solid(2, [1]) == [1])
        self.assertIn(Solid(3, [7]), [Solid(3, [8]), Solid(3, [7])])

    def test_has(self):
        solid = Solid(2, [0, 5, 191])
        self.assertEqual([grain for grain in range(-300, 300) if solid.has(grain)], [0, 5, 191])
        for grain in (5, 0, 191):
            self.assertIs(solid.has(grain), True)
        for grain in (-1, 1, 192, -187, 10 ** 30, -10 ** 30):
            self.assertIs(solid.has(grain), False)

    def test_sizes(self):
        for size in (2, 3, 4, 5, 6):
            self.assertEqual(empty(size).grains(), [])
            self.assertEqual(empty(size).size, size)
            self.assertEqual(whole(size).grains(), list(range(grain_count(size))))
            self.assertEqual(Solid(size, []), empty(size))
        for size in (1, 7, 0, -1, -2, 10 ** 20):
            self.assertEqual(refusal(Solid, size, []), ("InvalidSize", size))
            self.assertEqual(refusal(Solid, size, [-1]), ("InvalidSize", size))
            self.assertEqual(refusal(empty, size), ("InvalidSize", size))
            self.assertEqual(refusal(whole, size), ("InvalidSize", size))

    def test_grains_that_the_room_does_not_have(self):
        self.assertIsNone(refusal(Solid, 2, [0, 191]))
        self.assertEqual(refusal(Solid, 2, [0, 192, -1]), ("NoSuchGrain", 192))
        self.assertEqual(refusal(Solid, 2, [0, -1, 192]), ("NoSuchGrain", -1))
        self.assertEqual(refusal(Solid, 2, [500, 300, -7]), ("NoSuchGrain", 500))
        self.assertIsNone(refusal(Solid, 3, [192, 647]))
        self.assertEqual(refusal(Solid, 3, [192, 648]), ("NoSuchGrain", 648))

    def test_union_difference_common_part_and_rest(self):
        for size in (2, 3):
            one, other = spotted(size, 5), spotted(size, 7, 3)
            first, second = set(one.grains()), set(other.grains())
            self.assertTrue(first & second and first - second and second - first)
            self.assertEqual(one.united(other).grains(), sorted(first | second))
            self.assertEqual(one.less(other).grains(), sorted(first - second))
            self.assertEqual(other.less(one).grains(), sorted(second - first))
            self.assertEqual(one.common(other).grains(), sorted(first & second))
            self.assertEqual(one.rest().grains(), sorted(set(range(grain_count(size))) - first))
            self.assertEqual(one.rest().rest(), one)
            self.assertEqual(one.united(one.rest()), whole(size))
            self.assertEqual(one.common(one.rest()), empty(size))
            for result in (one.united(other), one.less(other), one.common(other), one.rest()):
                self.assertEqual(result.size, size)
            self.assertEqual((set(one.grains()), set(other.grains())), (first, second))

    def test_with_the_empty_and_the_whole_solid(self):
        one = spotted(2, 5)
        self.assertEqual(one.united(empty(2)), one)
        self.assertEqual(one.common(empty(2)), empty(2))
        self.assertEqual(one.less(empty(2)), one)
        self.assertEqual(one.less(whole(2)), empty(2))
        self.assertEqual(one.common(whole(2)), one)
        self.assertEqual(empty(2).rest(), whole(2))
        self.assertEqual(one.less(one), empty(2))

    def test_new_solids_are_returned(self):
        one = spotted(2, 5)
        for result in (one.united(one), one.less(empty(2)), one.common(one), one.moved(0, 0, 0), one.turned(0),
                       one.grown(0), one.shrunk(0)):
            self.assertEqual(result, one)
            self.assertIsNot(result, one)


class Point66(unittest.TestCase):
    """Solids are moved and turned."""

    def test_moving(self):
        for size in (2, 3):
            solid = spotted(size, 5)
            for shift in itertools.product((-2, -1, 0, 1, 2), repeat=3):
                wanted = solid_of(size, shifted(middles(solid), shift))
                self.assertEqual(solid.moved(*shift), wanted, (size, shift))

    def test_moving_keeps_what_stays_in_the_room(self):
        corner = block(3, (0, 0, 0), (1, 1, 1))
        self.assertEqual(corner.moved(2, 1, 0), block(3, (2, 1, 0), (3, 2, 1)))
        self.assertEqual(corner.moved(2, 1, 0).moved(-2, -1, 0), corner)
        self.assertEqual(corner.moved(0, 0, 2), block(3, (0, 0, 2), (1, 1, 3)))

    def test_moving_out_of_the_room(self):
        for size in (2, 6):
            for shift in ((size, 0, 0), (0, -size, 0), (0, 0, size), (200, -200, 200), (0, 0, -10 ** 9)):
                self.assertEqual(whole(size).moved(*shift), empty(size))
        self.assertEqual(whole(2).moved(1, 0, 0), block(2, (1, 0, 0), (2, 2, 2)))
        self.assertEqual(whole(2).moved(0, -1, 1), block(2, (0, 0, 1), (2, 1, 2)))
        self.assertEqual(whole(2).moved(1, 0, 0).moved(-1, 0, 0), block(2, (0, 0, 0), (1, 2, 2)))

    def turned_by_corners(self, size, grain, way):
        """Turns the four corners, in halves of a unit, by the words of the document."""
        found = set()
        for (x, y, z) in corners_of(size, grain):
            point = [(x, y, z), (y, z, x), (z, x, y), (x, z, y), (z, y, x), (y, x, z)][way // 8]
            bits = way % 8
            found.add(tuple(2 * size - point[k] if bits // 2 ** k % 2 == 1 else point[k] for k in range(3)))
        return frozenset(found)

    def test_all_48_ways(self):
        for size in (2, 3):
            by_corners = {frozenset(corners_of(size, grain)): grain for grain in range(grain_count(size))}
            some = [grain for grain in range(grain_count(size)) if grain % 7 == 0 or grain < 24]
            seen = set()
            for way in range(48):
                goes = [by_corners[self.turned_by_corners(size, grain, way)] for grain in some]
                self.assertEqual(Solid(size, some).turned(way), Solid(size, goes))
                for grain, target in list(zip(some, goes))[:9]:
                    self.assertEqual(Solid(size, [grain]).turned(way).grains(), [target])
                seen.add(tuple(goes))
            self.assertEqual(len(seen), 48)

    def test_the_example_of_the_document(self):
        # The point (0, 1, 2) goes to (2, 2, 0), so what lies at it beyond goes along.
        low, high = (0, 1, 2), (1, 2, 3)
        corners = [(x, y, z) for x in (0, 1) for y in (1, 2) for z in (2, 3)]
        goes = [(3 - y, z, x) for (x, y, z) in corners]
        self.assertIn((2, 2, 0), goes)
        lower = tuple(min(point[axis] for point in goes) for axis in range(3))
        upper = tuple(max(point[axis] for point in goes) for axis in range(3))
        self.assertEqual((lower, upper), ((1, 2, 0), (2, 3, 1)))
        self.assertEqual(block(3, low, high).turned(9), block(3, lower, upper))

    def test_ways_beyond_the_bounds(self):
        solid = spotted(2, 5)
        for way in (48, -1, 49, 1000, -48):
            self.assertEqual(refusal(solid.turned, way), ("InvalidWay", way))
        self.assertIsNone(refusal(solid.turned, 47))
        self.assertEqual(whole(6).turned(47), whole(6))
        self.assertEqual(empty(3).turned(21), empty(3))


class Point67(unittest.TestCase):
    """Solids are grown and shrunk."""

    def check(self, solid, t):
        size = solid.size
        shifts = list(itertools.product(range(-t, t + 1), repeat=3))
        there = middles(solid)
        grown = set()
        for shift in shifts:
            grown |= shifted(there, shift)
        kept = {point for point in there if all(shifted({point}, shift) <= there for shift in shifts)}
        self.assertEqual(solid.grown(t), solid_of(size, grown))
        self.assertEqual(solid.shrunk(t), solid_of(size, kept))
        self.assertEqual(middles(solid), there)

    def test_all_amounts(self):
        for size in (2, 3):
            solids = [spotted(size, 31), spotted(size, 11), whole(size), empty(size), spotted(size, 31).rest(),
                      block(size, (0, 0, 0), (1, 1, 1)), block(size, (0, 1, 0), (size, 2, size)), Solid(size, [0])]
            for solid in solids:
                for t in range(size + 1):
                    self.check(solid, t)

    def test_in_larger_rooms(self):
        for solid in (block(5, (1, 1, 1), (4, 4, 4)), block(4, (0, 0, 0), (4, 4, 3)), spotted(4, 97), Solid(6, [2000]),
                      block(5, (1, 1, 1), (4, 4, 4)).less(Solid(5, [grain_at(5, 20, 18, 17)]))):
            for t in (0, 1, 2):
                self.check(solid, t)

    def test_solids_at_the_border_lose_what_lies_there(self):
        self.assertEqual(whole(3).shrunk(1), block(3, (1, 1, 1), (2, 2, 2)))
        self.assertEqual(whole(2).shrunk(1), empty(2))
        self.assertEqual(whole(6).shrunk(2), block(6, (2, 2, 2), (4, 4, 4)))
        self.assertEqual(whole(6).shrunk(3), empty(6))
        self.assertEqual(whole(6).shrunk(0), whole(6))
        self.assertEqual(block(3, (0, 0, 0), (1, 1, 1)).grown(1), block(3, (0, 0, 0), (2, 2, 2)))
        self.assertEqual(block(3, (1, 1, 1), (2, 2, 2)).grown(1), whole(3))
        self.assertEqual(block(6, (5, 0, 0), (6, 1, 1)).grown(6), whole(6))
        self.assertEqual(block(6, (5, 0, 0), (6, 1, 1)).grown(4), block(6, (1, 0, 0), (6, 5, 5)))

    def test_amounts_beyond_the_bounds(self):
        for size in (2, 6):
            solid = spotted(size, 5)
            for t in (-1, size + 1, 100, -100):
                self.assertEqual(refusal(solid.grown, t), ("InvalidAmount", t))
                self.assertEqual(refusal(solid.shrunk, t), ("InvalidAmount", t))
            self.assertIsNone(refusal(solid.grown, size))
            self.assertIsNone(refusal(solid.shrunk, size))


class Point68(unittest.TestCase):
    """Lumps and hollows."""

    def lumps_by_merging(self, solid):
        """The lumps in the words of the document: sets are united where grains are neighbours."""
        groups = {grain: {grain} for grain in solid.grains()}
        for grain in solid.grains():
            for facet in range(4):
                other = neighbour_at(solid.size, grain, facet)
                if other is not None and solid.has(other) and groups[other] is not groups[grain]:
                    joined = groups[grain] | groups[other]
                    for one in joined:
                        groups[one] = joined
        found = []
        for grain in solid.grains():
            if sorted(groups[grain])[0] == grain:
                found.append(Solid(solid.size, list(groups[grain])))
        return found

    def test_lumps_and_their_order(self):
        for size in (2, 3):
            for solid in (spotted(size, 2), spotted(size, 3), spotted(size, 3).rest(), spotted(size, 5, 1).rest(),
                          spotted(size, 7)):
                lumps = solid.lumps()
                self.assertEqual(lumps, self.lumps_by_merging(solid))
                least = [lump.grains()[0] for lump in lumps]
                self.assertEqual(least, sorted(least))
                self.assertEqual(sorted(grain for lump in lumps for grain in lump.grains()), solid.grains())
                self.assertEqual([lump.size for lump in lumps], [size] * len(lumps))
        self.assertGreater(len(spotted(3, 5, 1).rest().lumps()), 3)

    def test_the_empty_and_the_whole_solid(self):
        self.assertEqual(empty(2).lumps(), [])
        self.assertEqual(empty(2).hollows(), [])
        self.assertEqual(whole(3).lumps(), [whole(3)])
        self.assertEqual(whole(3).hollows(), [])

    def test_single_grains(self):
        self.assertEqual(Solid(2, [7]).lumps(), [Solid(2, [7])])
        other = neighbour_at(2, 7, 1)
        self.assertEqual(Solid(2, [7, other]).lumps(), [Solid(2, [7, other])])

    def test_blocks_that_touch_in_an_edge_do_not_hang_together(self):
        one, other = block(3, (0, 0, 0), (1, 1, 1)), block(3, (1, 1, 0), (2, 2, 1))
        self.assertEqual(one.united(other).lumps(), [one, other])
        third = block(3, (1, 0, 0), (2, 1, 1))
        self.assertEqual(one.united(other).united(third).lumps(), [one.united(other).united(third)])

    def test_hollows(self):
        inner = block(3, (1, 1, 1), (2, 2, 2))
        self.assertEqual(whole(3).less(inner).hollows(), [inner])
        self.assertEqual(inner.hollows(), [])
        two = block(5, (1, 1, 1), (2, 2, 2)).united(block(5, (3, 3, 3), (4, 4, 4)))
        shell = whole(5).less(two)
        self.assertEqual(shell.hollows(), [block(5, (1, 1, 1), (2, 2, 2)), block(5, (3, 3, 3), (4, 4, 4))])
        self.assertEqual(two.hollows(), [])

    def test_lumps_of_the_rest_that_touch_the_border_are_no_hollows(self):
        for axis in range(3):
            high = [2, 2, 2]
            high[axis] = 3
            channel = block(3, (1, 1, 1), high)
            self.assertEqual(whole(3).less(channel).hollows(), [])
            low = [1, 1, 1]
            low[axis] = 0
            self.assertEqual(whole(3).less(block(3, low, (2, 2, 2))).hollows(), [])

    def test_a_grain_in_a_cube_at_the_border_can_be_a_hollow(self):
        inner = [grain for grain in range(grain_count(2)) if neighbour_at(2, grain, 0) is not None]
        border = [grain for grain in range(grain_count(2)) if neighbour_at(2, grain, 0) is None]
        for grain in inner[:12]:
            self.assertEqual(whole(2).less(Solid(2, [grain])).hollows(), [Solid(2, [grain])])
        for grain in border[:12]:
            self.assertEqual(whole(2).less(Solid(2, [grain])).hollows(), [])

    def test_lumps_change_nothing(self):
        solid = spotted(3, 3)
        before = solid.grains()
        solid.lumps()
        solid.hollows()
        self.assertEqual(solid.grains(), before)


class Interface(unittest.TestCase):
    def test_each_method_is_defined_in_the_class(self):
        for name in ("__init__", "__eq__", "grains", "has", "many", "united", "less", "common", "rest", "moved", "turned",
                     "grown", "shrunk", "lumps", "hollows"):
            self.assertIn(name, vars(Solid))


if __name__ == "__main__":
    unittest.main()
