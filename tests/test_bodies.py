"""Points 45 to 49: bodies."""

import itertools
import random
import unittest

from helping import OTHERS, block, picked, rectangle, refusal, ring_of_lines, rings_of_lines, sketch_of
from partloft.bodies import body_of, field_count
from partloft.profiles import region
from partloft.solids import empty, whole
from partloft.values import Values


def plain(size, kind, *fields):
    return body_of(size, kind, list(fields), None, None, None)


def bored(size, kind, axis, *fields):
    return body_of(size, kind, list(fields), None, None, axis)


def drawn(size, kind, sketch, *fields, values=None):
    return body_of(size, kind, list(fields), sketch, values or Values(), None)


def made_across(size, axis, holds):
    """The solid of the grains for whose u, v and coordinate along an axis something holds."""
    first, second = OTHERS[axis]
    return picked(size, lambda *point: holds(point[first], point[second], point[axis]))


def in_disc(radius, du, dv):
    return max(abs(du), abs(dv)) <= radius and abs(du) + abs(dv) <= (181 * radius + 64) // 128


def between(one, other, coordinate):
    return min(one, other) <= coordinate <= max(one, other)


def wedge_slowly(size, x0, y0, z0, x1, y1, z1, way):
    """Point 46 in its own words."""
    low, high = (x0, y0, z0), (x1, y1, z1)
    first, second = OTHERS[way // 4]
    width = high[first] - low[first]
    if width != high[second] - low[second]:
        return empty(size)

    def holds(*point):
        p = high[first] - point[first] if way % 2 == 1 else point[first] - low[first]
        q = high[second] - point[second] if way // 2 % 2 == 1 else point[second] - low[second]
        return all(low[k] <= point[k] <= high[k] for k in range(3)) and p + q <= width
    return picked(size, holds)


class Counts(unittest.TestCase):
    def test_the_number_of_fields(self):
        kinds = ("block", "wedge", "hole", "step", "sink", "prism", "taper", "turn", "wall")
        self.assertEqual([field_count(kind) for kind in kinds], [6, 7, 5, 7, 5, 2, 2, 1, 3])


class Point46(unittest.TestCase):
    """Blocks and wedges."""

    def test_blocks(self):
        self.assertEqual(plain(3, "block", 0, 0, 0, 3, 3, 3), whole(3))
        self.assertEqual(plain(3, "block", 0, 1, 2, 1, 3, 3), block(3, (0, 1, 2), (1, 3, 3)))
        self.assertEqual(plain(6, "block", 5, 0, 3, 6, 2, 4), block(6, (5, 0, 3), (6, 2, 4)))
        self.assertEqual(plain(2, "block", -200, -5, 1, 200, 1, 7), block(2, (0, 0, 1), (2, 1, 2)))

    def test_blocks_without_grains(self):
        for fields in ((0, 0, 0, 0, 2, 2), (2, 0, 0, 0, 2, 2), (0, 2, 0, 2, 0, 2), (0, 0, 2, 2, 2, 0), (2, 0, 0, 9, 2, 2),
                       (-9, 0, 0, 0, 2, 2)):
            self.assertEqual(plain(2, "block", *fields), empty(2))

    def test_wedges_of_all_ways(self):
        blocks = ((0, 0, 0, 2, 2, 2), (0, 0, 0, 1, 2, 1), (1, 0, 0, 3, 2, 2), (0, 1, -1, 3, 2, 2), (-1, 0, 1, 1, 2, 3),
                  (-5, -5, -5, 7, 7, 7), (0, 1, 0, 3, 4, 1), (0, 0, 1, 1, 5, 2))
        for fields in blocks:
            for way in range(12):
                self.assertEqual(plain(3, "wedge", *fields, way), wedge_slowly(3, *fields, way), (fields, way))

    def test_wedges_by_hand(self):
        # Each way of one axis leaves out another half of the cube.
        for axis in range(3):
            halves = [plain(2, "wedge", 0, 0, 0, 1, 1, 1, 4 * axis + k) for k in range(4)]
            self.assertEqual([half.many() for half in halves], [12] * 4)
            self.assertEqual(halves[0].united(halves[3]), block(2, (0, 0, 0), (1, 1, 1)))
            self.assertEqual(halves[1].united(halves[2]), block(2, (0, 0, 0), (1, 1, 1)))
            self.assertEqual(halves[0].common(halves[3]), empty(2))
        self.assertEqual(plain(2, "wedge", 0, 0, 0, 2, 2, 2, 1), picked(2, lambda x, y, z: (2 - y) + z <= 2))
        self.assertEqual(plain(2, "wedge", 0, 0, 0, 2, 2, 2, 6), picked(2, lambda x, y, z: x + (2 - z) <= 2))
        self.assertEqual(plain(2, "wedge", 0, 0, 0, 2, 2, 2, 8), picked(2, lambda x, y, z: x + y <= 2))

    def test_wedges_with_other_widths(self):
        self.assertEqual(plain(3, "wedge", 0, 0, 0, 3, 2, 3, 0), empty(3))
        self.assertEqual(plain(3, "wedge", 0, 0, 0, 3, 2, 3, 8), empty(3))
        self.assertEqual(plain(3, "wedge", 0, 0, 0, 3, 2, 3, 4).many(), 24 * 9)
        self.assertEqual(plain(3, "wedge", 2, 2, 0, 0, 0, 3, 8), empty(3))
        # The block may go out of the room: its own width counts.
        self.assertEqual(plain(3, "wedge", 0, 0, 0, 3, 6, 6, 0), picked(3, lambda x, y, z: y + z <= 6))


class Point47(unittest.TestCase):
    """Holes, steps and sinks."""

    def test_holes(self):
        for axis in range(3):
            for u, v, start, end, radius in ((1, 1, 0, 3, 1), (0, 2, 2, 1, 2), (1, 3, -4, 2, 3), (-2, 1, 5, 1, 4), (3, 3, 3, 0, 64)):
                wanted = made_across(3, axis, lambda x, y, w: between(start, end, w) and in_disc(radius, x - u, y - v))
                self.assertEqual(bored(3, "hole", axis, u, v, start, end, radius), wanted)
                self.assertGreater(wanted.many(), 0)

    def test_u_and_v_are_the_other_axes_in_order(self):
        for axis, low in ((0, (0, 1, 3)), (1, (1, 0, 3)), (2, (1, 3, 0))):
            hole = bored(5, "hole", axis, 2, 4, 0, 1, 1)
            high = [low[k] + (1 if k == axis else 2) for k in range(3)]
            self.assertEqual(hole.less(block(5, low, high)), empty(5))
            self.assertEqual(hole.many(), 48)

    def test_from_may_be_the_greater_one(self):
        for axis in range(3):
            for kind, rest in (("hole", (2,)), ("step", (2, 1, 3))):
                self.assertEqual(bored(4, kind, axis, 1, 2, 3, 1, *rest).many() > 0, True)
        self.assertEqual(bored(4, "hole", 2, 1, 2, 3, 1, 2), bored(4, "hole", 2, 1, 2, 1, 3, 2))
        self.assertEqual(bored(4, "hole", 2, 1, 2, 2, 2, 2), empty(4))
        self.assertEqual(bored(4, "hole", 2, 1, 2, 4, 9, 2), empty(4))

    def test_steps(self):
        for axis in range(3):
            for u, v, start, end, r, end2, r2 in ((2, 2, 0, 1, 2, 4, 1), (1, 2, 3, 4, 2, 1, 1), (0, 3, 2, 0, 1, 4, 2)):
                one = bored(4, "hole", axis, u, v, start, end, r)
                other = bored(4, "hole", axis, u, v, start, end2, r2)
                self.assertEqual(bored(4, "step", axis, u, v, start, end, r, end2, r2), one.united(other))
                self.assertTrue(one.less(other).many() and other.less(one).many())

    def test_sinks(self):
        for axis in range(3):
            for u, v, start, end, s in ((1, 1, 0, 3, 2), (2, 1, 3, 0, 3), (0, 3, 1, 3, 1), (4, -1, -1, 2, 5), (1, 1, 4, 0, 3)):
                def holds(x, y, w):
                    reach = s - abs(w - start)
                    return between(start, end, w) and abs(x - u) <= reach and abs(y - v) <= reach
                self.assertEqual(bored(3, "sink", axis, u, v, start, end, s), made_across(3, axis, holds))
        self.assertEqual(bored(3, "sink", 2, 1, 1, 0, 3, 1), bored(3, "sink", 2, 1, 1, 0, 1, 1))
        self.assertGreater(bored(3, "sink", 2, 1, 1, 3, 0, 3).many(), 0)
        # A pyramid of two units at its foot and one unit high has 4 / 3 cubic units.
        self.assertEqual(bored(3, "sink", 2, 1, 1, 0, 3, 1).many(), 32)

    def test_no_sketch_and_no_values_are_needed(self):
        self.assertEqual(body_of(2, "hole", [1, 1, 0, 2, 2], None, None, 0).many() > 0, True)
        self.assertEqual(body_of(2, "block", [0, 0, 0, 1, 1, 1], None, None, None).many(), 24)


class Point48(unittest.TestCase):
    """Bodies of sketches."""

    shapes = (
        ((0, 0), (3, 0), (3, 1), (1, 1), (1, 3), (0, 3)),
        ((0, 0), (3, 0), (3, 2), (0, 2)),
        ((1, 0), (2, 1), (1, 2), (0, 1)),
        ((0, 0), (3, 3), (0, 3)),
    )

    def quarter(self, u, v):
        """The quarter of a point that is on no diagonal."""
        du, dv = u - int(u), v - int(v)
        rising, falling = dv > du, dv > 1 - du
        return (int(u), int(v), {(False, False): 0, (False, True): 1, (True, True): 2, (True, False): 3}[rising, falling])

    def test_prisms(self):
        for axis in range(3):
            for shape in self.shapes:
                for offset, start, end in ((0, 0, 3), (1, 0, 1), (2, -2, -1), (6, -200, -4), (0, 1, 200)):
                    sketch = ring_of_lines(*shape, axis=axis, offset=offset)
                    quarters = region(sketch, Values(), 3)
                    wanted = made_across(3, axis, lambda u, v, w: (
                        offset + start <= w <= offset + end and self.quarter(u, v) in quarters))
                    self.assertEqual(drawn(3, "prism", sketch, start, end), wanted)
                    self.assertGreater(wanted.many(), 0)

    def test_prisms_with_from_greater_than_to_have_no_grains(self):
        sketch = ring_of_lines(*self.shapes[0])
        self.assertEqual(drawn(3, "prism", sketch, 2, 1), empty(3))
        self.assertEqual(drawn(3, "prism", sketch, 1, 1), empty(3))
        self.assertEqual(drawn(3, "prism", sketch_of([]), 0, 3), empty(3))

    def test_prisms_of_discs(self):
        for axis in range(3):
            sketch = sketch_of([(2, 1)], discs=[(0, "2")], axis=axis, offset=1)
            self.assertEqual(drawn(3, "prism", sketch, 0, 1), bored(3, "hole", axis, 2, 1, 1, 2, 2))

    def taper_slowly(self, size, shape, axis, offset, start, end):
        quarters = region(ring_of_lines(*shape), Values(), size)
        inside = {(u, v) for u, v, _ in quarters}

        def holds(u, v, w):
            h = abs(w - (offset + start))
            if not between(offset + start, offset + end, w):
                return False
            near_u = [x for x in range(-9, 15) if u - h < x + 1 and x < u + h]
            near_v = [y for y in range(-9, 15) if v - h < y + 1 and y < v + h]
            return all(one in inside for one in itertools.product(near_u, near_v))
        return made_across(size, axis, holds)

    def test_tapers(self):
        for axis in range(3):
            for shape in (rectangle(0, 0, 3, 3), rectangle(0, 1, 4, 4), self.shapes[0],
                          ((0, 0), (4, 0), (4, 4), (3, 4), (3, 1), (1, 1), (1, 3), (0, 3))):
                for offset, start, end in ((0, 0, 4), (3, 0, -3), (1, -1, 3), (0, 3, 0), (2, 2, -2), (0, -1, 2)):
                    sketch = ring_of_lines(*shape, axis=axis, offset=offset)
                    found = drawn(4, "taper", sketch, start, end)
                    self.assertEqual(found, self.taper_slowly(4, shape, axis, offset, start, end))

    def test_tapers_in_both_directions_of_the_plane(self):
        shapes = (rectangle(0, 0, 6, 5), rectangle(0, 0, 5, 6), rectangle(1, 0, 6, 6), rectangle(0, 1, 6, 6),
                  ((0, 0), (6, 0), (6, 6), (3, 6), (3, 4), (0, 4)), ((0, 0), (4, 0), (4, 3), (6, 3), (6, 6), (0, 6)))
        for shape in shapes:
            found = drawn(6, "taper", ring_of_lines(*shape), 0, 6)
            self.assertEqual(found, self.taper_slowly(6, shape, 2, 0, 0, 6))

    def test_tapers_by_hand(self):
        sketch = ring_of_lines(*rectangle(0, 0, 2, 2))
        # A pyramid again: 4 / 3 cubic units; from the other side it stands on its head.
        self.assertEqual(drawn(2, "taper", sketch, 0, 2).many(), 32)
        self.assertEqual(drawn(2, "taper", sketch, 0, 2), bored(2, "sink", 2, 1, 1, 0, 2, 1))
        self.assertEqual(drawn(2, "taper", sketch, 1, 0), bored(2, "sink", 2, 1, 1, 1, 0, 1))
        self.assertEqual(drawn(2, "taper", sketch, 1, 1), empty(2))
        self.assertEqual(drawn(2, "taper", sketch, -200, 200), empty(2))
        self.assertEqual(drawn(2, "taper", sketch_of([]), 0, 2), empty(2))

    def turn_slowly(self, size, shape, axis, offset, m):
        inside = {(u, v) for u, v, _ in region(ring_of_lines(*shape), Values(), size)}

        def holds(u, v, w):
            p, q = abs(u - m), abs(w - offset)
            radius = next(r for r in itertools.count() if in_disc(r, p, q))
            return (m + radius - 1, int(v)) in inside
        return made_across(size, axis, holds)

    def test_turns(self):
        for axis in range(3):
            for shape in (rectangle(0, 0, 4, 1), rectangle(2, 1, 4, 3), self.shapes[0], rectangle(3, 0, 4, 4)):
                for offset in (0, 1, 2, 4, 6):
                    for m in (-1, 0, 1, 2, 3, 4, 5):
                        sketch = ring_of_lines(*shape, axis=axis, offset=offset)
                        self.assertEqual(drawn(4, "turn", sketch, m), self.turn_slowly(4, shape, axis, offset, m))

    def test_turns_by_hand(self):
        for axis, along in ((2, 1), (1, 2), (0, 2)):
            sketch = ring_of_lines(*rectangle(2, 0, 3, 4), axis=axis, offset=2)
            # u of the sketch is the first other axis, the turn goes about a line along the second one.
            place = (2, 2)
            self.assertEqual(drawn(4, "turn", sketch, 2), bored(4, "hole", along, *place, 0, 4, 1))
            ring = ring_of_lines(*rectangle(3, 0, 4, 4), axis=axis, offset=2)
            hole = bored(4, "hole", along, *place, 0, 4, 2).less(bored(4, "hole", along, *place, 0, 4, 1))
            self.assertEqual(drawn(4, "turn", ring, 2), hole)
        sketch = ring_of_lines(*rectangle(0, 0, 4, 4))
        for m in (-200, 200, 4):
            self.assertEqual(drawn(4, "turn", sketch, m), self.turn_slowly(4, rectangle(0, 0, 4, 4), 2, 0, m))
        self.assertEqual(drawn(4, "turn", sketch_of([]), 0), empty(4))

    def on_line(self, line, s, u, v):
        """True if some point of a line is near enough, tried at all eighths of its way."""
        (first_u, first_v), (second_u, second_v) = line
        length = 8 * max(abs(second_u - first_u), abs(second_v - first_v))
        for k in range(length + 1):
            x = first_u + (second_u - first_u) * k / length
            y = first_v + (second_v - first_v) * k / length
            if abs(u - x) <= s and abs(v - y) <= s:
                return True
        return False

    def test_walls(self):
        lines = [((0, 0), (2, 2)), ((3, 0), (1, 2)), ((1, 1), (3, 1)), ((2, 0), (2, 3)), ((3, 3), (0, 0)), ((0, 3), (0, 2)),
                 ((0, 3), (3, 0)), ((2, 2), (1, 2))]
        chance = random.Random(48)
        for axis in range(3):
            for line, s in itertools.product(lines, (1, 2)):
                offset = chance.randint(0, 2)
                start, end = chance.choice(((0, 1), (-1, 1), (0, 200), (-offset, 2 - offset)))
                sketch = sketch_of(line, [(0, 1)], axis=axis, offset=offset)
                wanted = made_across(3, axis, lambda u, v, w: (
                    offset + start <= w <= offset + end and self.on_line(line, s, u, v)))
                self.assertEqual(drawn(3, "wall", sketch, s, start, end), wanted, (line, s))

    def test_walls_of_several_lines(self):
        one, other = sketch_of([(0, 0), (1, 1)], [(0, 1)]), sketch_of([(4, 5), (6, 5)], [(0, 1)])
        both = sketch_of([(0, 0), (1, 1), (4, 5), (6, 5)], [(0, 1), (2, 3)])
        self.assertEqual(drawn(6, "wall", both, 1, 0, 6), drawn(6, "wall", one, 1, 0, 6).united(drawn(6, "wall", other, 1, 0, 6)))
        self.assertEqual(drawn(6, "wall", other, 1, 0, 6), block(6, (3, 4, 0), (6, 6, 6)))
        self.assertEqual(drawn(6, "wall", other, 64, 1, 2), block(6, (0, 0, 1), (6, 6, 2)))
        self.assertEqual(drawn(6, "wall", other, 1, 2, 1), empty(6))
        self.assertEqual(drawn(6, "wall", sketch_of([(1, 1)], discs=[(0, "1")]), 1, 0, 6), empty(6))


class Point49(unittest.TestCase):
    """Bounds of fields, and profiles."""

    def test_radii_from_1_to_64(self):
        good = {"hole": [1, 1, 0, 1, 1], "step": [1, 1, 0, 1, 1, 2, 1], "sink": [1, 1, 0, 1, 1]}
        for kind, place in (("hole", 4), ("step", 4), ("step", 6), ("sink", 4)):
            for number in (1, 64, 0, 65, -1, 200, -200):
                fields = list(good[kind])
                fields[place] = number
                wanted = None if 1 <= number <= 64 else ("FieldFault", place)
                self.assertEqual(refusal(body_of, 2, kind, fields, None, None, 1), wanted)
        self.assertEqual(refusal(body_of, 2, "step", [0, 0, 0, 0, 0, 0, 0], None, None, 1), ("FieldFault", 4))
        self.assertEqual(refusal(body_of, 2, "step", [0, 0, 0, 0, 65, 0, 1], None, None, 1), ("FieldFault", 4))

    def test_ways_from_0_to_11(self):
        for way in (0, 11, 12, -1, 200):
            wanted = None if 0 <= way <= 11 else ("FieldFault", 6)
            self.assertEqual(refusal(body_of, 2, "wedge", [0, 0, 0, 1, 1, 1, way], None, None, None), wanted)
            self.assertEqual(refusal(body_of, 2, "wedge", [0, 0, 0, 1, 2, 1, way], None, None, None), wanted)

    def wrong(self):
        return {
            1: sketch_of([(0, 0)], constraints=[(0, 0, 0, 0, "x")]),
            2: sketch_of([(4, 0), (0, 0)], [(0, 1)]),
            3: sketch_of([(2, 1), (0, 0)], [(0, 1)]),
            4: sketch_of([(0, 0)], discs=[(0, "4")]),
            5: sketch_of([(1, 1), (0, 0)], [(0, 1)]),
            6: sketch_of([(1, 1), (0, 0)], [(0, 1), (0, 1)]),
        }

    def test_walls_mind_three_profiles_only(self):
        for number, sketch in self.wrong().items():
            wanted = ("ProfileFault", number) if number <= 3 else None
            self.assertEqual(refusal(drawn, 3, "wall", sketch, 1, 0, 1), wanted)
            for s in (0, 65, -3):
                self.assertEqual(refusal(drawn, 3, "wall", sketch, s, 0, 1), ("FieldFault", 0))
        self.assertEqual(drawn(3, "wall", self.wrong()[5], 1, 0, 3), picked(3, lambda x, y, z: (
            max(x, y) <= 2 and abs(x - y) <= 2)))
        self.assertIsNone(refusal(drawn, 3, "wall", self.wrong()[5], 64, 0, 1))

    def test_other_kinds_mind_all_profiles(self):
        for number, sketch in self.wrong().items():
            for kind, fields in (("prism", (0, 1)), ("taper", (0, 1)), ("turn", (0,))):
                self.assertEqual(refusal(drawn, 3, kind, sketch, *fields), ("ProfileFault", number))

    def test_straight_sketches_are_wanted(self):
        for sketch in (ring_of_lines((0, 0), (1, 1), (0, 1)), sketch_of([(1, 1)], discs=[(0, "1")]),
                       rings_of_lines(rectangle(0, 0, 3, 3), discs=[(1, 1, "1")])):
            self.assertEqual(refusal(drawn, 3, "taper", sketch, 0, 1), ("ProfileFault", 7))
            self.assertEqual(refusal(drawn, 3, "turn", sketch, 0), ("ProfileFault", 7))
            self.assertIsNone(refusal(drawn, 3, "prism", sketch, 0, 1))
            self.assertIsNone(refusal(drawn, 3, "wall", sketch, 1, 0, 1))
        discs = sketch_of([(1, 1)], discs=[(0, "9")])
        self.assertEqual(refusal(drawn, 3, "taper", discs, 0, 1), ("ProfileFault", 4))

    def test_the_room_counts_for_the_profile(self):
        sketch = ring_of_lines(*rectangle(0, 0, 3, 3))
        self.assertEqual(refusal(drawn, 2, "prism", sketch, 0, 1), ("ProfileFault", 2))
        self.assertIsNone(refusal(drawn, 3, "prism", sketch, 0, 1))

    def test_the_values_count(self):
        values = Values()
        values.define("a", "2")
        sketch = ring_of_lines(*rectangle(0, 0, 1, 1))
        sketch.add_constraint(2, 0, 1, 0, "a")
        sketch.add_constraint(6, 0, 1, 0, "")
        sketch.add_constraint(7, 1, 2, 0, "")
        self.assertEqual(drawn(3, "prism", sketch, 0, 1, values=values), block(3, (0, 0, 0), (2, 1, 1)))
        values.define("a", "3")
        self.assertEqual(drawn(3, "prism", sketch, 0, 1, values=values), block(3, (0, 0, 0), (3, 1, 1)))
        values.define("a", "1 / 3")
        self.assertEqual(refusal(drawn, 3, "prism", sketch, 0, 1), ("ProfileFault", 1))

    def test_nothing_is_modified(self):
        fields = [0, 3]
        sketch = ring_of_lines(*rectangle(0, 0, 2, 2))
        before = (sketch.points(), sketch.lines(), sketch.discs(), sketch.constraints())
        body_of(3, "taper", fields, sketch, Values(), None)
        self.assertEqual(fields, [0, 3])
        self.assertEqual((sketch.points(), sketch.lines(), sketch.discs(), sketch.constraints()), before)


if __name__ == "__main__":
    unittest.main()
