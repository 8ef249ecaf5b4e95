"""Points 75 to 78 and 80: the boundary, faces, edges and directions."""

import itertools
import unittest

from helping import block, picked, spotted
from partloft.faces import boundary_of, direction_code, edge_counts, faces_of, is_closed, signed_volume
from partloft.grains import corners_of, direction_of, facet_corners, grain_count, middle_of, offset_of
from partloft.solids import Solid, empty, whole


def some_solids():
    yield from (empty(2), whole(2), Solid(2, [0]), Solid(2, [7, 50]), spotted(2, 3), spotted(2, 5, 1).rest())
    yield from (whole(3), block(3, (0, 0, 0), (1, 2, 3)), spotted(3, 4), whole(3).less(block(3, (1, 1, 1), (2, 2, 2))))
    # Blocks that share an edge, and blocks that share a corner only.
    yield block(3, (0, 0, 0), (1, 1, 1)).united(block(3, (1, 1, 0), (2, 2, 1)))
    yield block(3, (0, 0, 0), (1, 1, 1)).united(block(3, (1, 1, 1), (2, 2, 2)))
    yield picked(3, lambda x, y, z: x + y + z <= 5)
    yield spotted(4, 7)


def boundary_slowly(solid):
    """Point 75 by the corners: a facet is on the boundary if no other grain of the solid has its three corners."""
    owners = {}
    for grain in solid.grains():
        for corners in itertools.combinations(corners_of(solid.size, grain), 3):
            owners.setdefault(frozenset(corners), []).append(grain)
    found = []
    for grain in solid.grains():
        for facet in range(4):
            if len(owners[frozenset(facet_corners(solid.size, grain, facet))]) == 1:
                found.append((grain, facet))
    return found


def faces_slowly(solid):
    """Point 76: facets are put together as long as two of them touch."""
    groups = []
    for grain, facet in boundary_slowly(solid):
        plane = (direction_of(solid.size, grain, facet), offset_of(solid.size, grain, facet))
        corners = set(facet_corners(solid.size, grain, facet))
        touched = [group for group in groups if group[0] == plane
                   and any(len(corners & other) == 2 for other in group[2])]
        joined = (plane, [(grain, facet)], [corners])
        for group in touched:
            joined = (plane, joined[1] + group[1], joined[2] + group[2])
        groups = [group for group in groups if all(group is not one for one in touched)] + [joined]
    faces = [(*plane, tuple(sorted(facets))) for plane, facets, _ in groups]
    return sorted(faces, key=lambda face: face[2])


class Point75(unittest.TestCase):
    """Boundary facets."""

    def test_against_the_corners(self):
        for solid in some_solids():
            self.assertEqual(boundary_of(solid), boundary_slowly(solid))

    def test_by_hand(self):
        self.assertEqual(boundary_of(empty(3)), [])
        self.assertEqual(boundary_of(Solid(2, [9])), [(9, 0), (9, 1), (9, 2), (9, 3)])
        for size in (2, 3, 6):
            found = boundary_of(whole(size))
            self.assertEqual(len(found), 6 * 4 * size * size)
            self.assertEqual({facet for _, facet in found}, {0})
        self.assertEqual(len(boundary_of(block(3, (1, 1, 1), (2, 2, 2)))), 24)

    def test_the_order(self):
        for solid in some_solids():
            found = boundary_of(solid)
            self.assertEqual(found, sorted(found))

    def test_new_lists_are_returned(self):
        solid = whole(2)
        boundary_of(solid).clear()
        self.assertEqual(len(boundary_of(solid)), 96)


class Point76(unittest.TestCase):
    """Faces."""

    def test_against_plain_groups(self):
        for solid in some_solids():
            self.assertEqual(faces_of(solid), faces_slowly(solid))

    def test_the_whole_room(self):
        faces = faces_of(whole(3))
        self.assertEqual([(direction, offset) for direction, offset, _ in faces], [
            ((0, 0, -1), 0), ((0, -1, 0), 0), ((-1, 0, 0), 0), ((1, 0, 0), 3), ((0, 1, 0), 3), ((0, 0, 1), 3)])
        self.assertEqual([len(facets) for _, _, facets in faces], [36] * 6)
        self.assertEqual(faces_of(empty(3)), [])

    def test_the_order_is_that_of_the_first_facets(self):
        for solid in some_solids():
            firsts = [facets[0] for _, _, facets in faces_of(solid)]
            self.assertEqual(firsts, sorted(firsts))
            for _, _, facets in faces_of(solid):
                self.assertIsInstance(facets, tuple)
                self.assertEqual(list(facets), sorted(facets))
            together = [facet for _, _, facets in faces_of(solid) for facet in facets]
            self.assertEqual(sorted(together), boundary_of(solid))

    def test_a_corner_in_common_is_not_enough(self):
        solid = block(4, (0, 0, 0), (1, 1, 1)).united(block(4, (1, 1, 0), (2, 2, 1)))
        planes = [(direction, offset) for direction, offset, _ in faces_of(solid)]
        self.assertEqual(len(planes), 12)
        self.assertEqual(planes.count(((0, 0, 1), 1)), 2)
        self.assertEqual(planes.count(((1, 0, 0), 1)), 1)
        joined = solid.united(block(4, (1, 0, 0), (2, 1, 1)))
        self.assertEqual([plane[:2] for plane in faces_of(joined)].count(((0, 0, 1), 1)), 1)

    def test_the_same_plane_from_both_sides(self):
        solid = block(3, (0, 0, 0), (1, 1, 1)).united(block(3, (0, 1, 1), (1, 2, 2)))
        planes = [(direction, offset) for direction, offset, _ in faces_of(solid)]
        self.assertIn(((0, 0, 1), 1), planes)
        self.assertIn(((0, 0, -1), -1), planes)

    def test_slanted_faces(self):
        wedge = picked(2, lambda x, y, z: x + y <= 2)
        planes = {(direction, offset): len(facets) for direction, offset, facets in faces_of(wedge)}
        # Each unit square of the diagonal plane has two facets 1 and four facets 2 and 3.
        self.assertEqual(planes[((1, 1, 0), 2)], 2 * 2 * 6)
        self.assertEqual(sorted(planes.values()), [8, 8, 16, 16, 24])


class Point77(unittest.TestCase):
    """Sides of the surface."""

    def test_counts(self):
        for solid in some_solids():
            wanted = {}
            for grain, facet in boundary_slowly(solid):
                for pair in itertools.combinations(sorted(facet_corners(solid.size, grain, facet)), 2):
                    wanted[pair] = wanted.get(pair, 0) + 1
            found = edge_counts(solid)
            self.assertEqual(found, wanted)
            self.assertTrue(all(pair[0] < pair[1] for pair in found))

    def test_surfaces_are_closed(self):
        for solid in some_solids():
            self.assertTrue(all(many % 2 == 0 and many > 0 for many in edge_counts(solid).values()))
            self.assertIs(is_closed(solid), True)
        self.assertEqual(edge_counts(empty(2)), {})

    def test_sides_of_more_than_two_facets(self):
        solid = block(3, (0, 0, 0), (1, 1, 1)).united(block(3, (1, 1, 0), (2, 2, 1)))
        self.assertEqual(edge_counts(solid)[((2, 2, 0), (2, 2, 2))], 4)
        self.assertEqual(edge_counts(solid)[((0, 0, 0), (0, 0, 2))], 2)
        self.assertEqual(edge_counts(Solid(2, [0])), {pair: 2 for pair in itertools.combinations(
            sorted(corners_of(2, 0)), 2)})


class Point78(unittest.TestCase):
    """The volume that the surface encloses."""

    def test_twice_the_number_of_grains(self):
        for solid in some_solids():
            self.assertEqual(signed_volume(solid), 2 * solid.many())
        for grain in range(grain_count(2)):
            self.assertEqual(signed_volume(Solid(2, [grain])), 2)
        self.assertEqual(signed_volume(whole(6)), 2 * 5184)


class Point80(unittest.TestCase):
    """Codes of directions."""

    def test_all_directions(self):
        directions = list(itertools.product((-1, 0, 1), repeat=3))
        self.assertEqual([direction_code(direction) for direction in directions], list(range(27)))
        self.assertEqual(direction_code((1, 0, 0)), 22)
        self.assertEqual(direction_code((0, -1, 1)), 11)


class Rests(unittest.TestCase):
    def test_nothing_is_modified(self):
        solid = spotted(2, 3)
        before = solid.grains()
        for work in (boundary_of, faces_of, edge_counts, signed_volume, is_closed):
            work(solid)
        self.assertEqual(solid.grains(), before)

    def test_the_middles_are_inside_of_their_facets(self):
        for grain in range(0, grain_count(3), 5):
            middle = middle_of(3, grain)
            for facet in range(4):
                direction = direction_of(3, grain, facet)
                self.assertLess(sum(a * b for a, b in zip(direction, middle)), 8 * offset_of(3, grain, facet))


if __name__ == "__main__":
    unittest.main()
