"""Points 35 to 39: profiles, loops, regions and straight sketches."""

import itertools
import random
import unittest
from fractions import Fraction

from helping import rectangle, refusal, ring_of_lines, rings_of_lines, sketch_of
from partloft.profiles import disc_bound, is_straight, loops, profile, region
from partloft.tools import in_disc
from partloft.values import Values

# Three inner points of each quarter, in 64ths of a unit from the lesser corner.
INSIDE = {
    0: ((32, 1), (30, 25), (9, 5)),
    1: ((63, 32), (40, 27), (58, 55)),
    2: ((32, 63), (30, 40), (9, 59)),
    3: ((1, 32), (25, 30), (5, 55)),
}


def profile_of(sketch, size=6, values=None):
    return profile(sketch, values or Values(), size)


def shared_points(one, other):
    """True if two lines have a point in common that is not an end of both, by plain geometry."""
    (p, q), (r, s) = one, other
    d, e = (q[0] - p[0], q[1] - p[1]), (s[0] - r[0], s[1] - r[1])
    cross = d[0] * e[1] - d[1] * e[0]
    away = (r[0] - p[0], r[1] - p[1])
    if cross != 0:
        t = Fraction(away[0] * e[1] - away[1] * e[0], cross)
        w = Fraction(away[0] * d[1] - away[1] * d[0], cross)
        return 0 <= t <= 1 and 0 <= w <= 1 and not (t in (0, 1) and w in (0, 1))
    if away[0] * d[1] - away[1] * d[0] != 0:
        return False
    length = d[0] * d[0] + d[1] * d[1]
    along = sorted(Fraction((x[0] - p[0]) * d[0] + (x[1] - p[1]) * d[1], length) for x in (r, s))
    return max(along[0], 0) < min(along[1], 1)


def profile_slowly(lines, discs, size):
    """Point 35 in its own words, for a solved sketch with whole places, as lists of ends and of (place, radius)."""
    places = [end for line in lines for end in line] + [place for place, _ in discs]
    if not all(0 <= coordinate <= size for place in places for coordinate in place):
        return 2
    for (u, v), (other_u, other_v) in lines:
        du, dv = other_u - u, other_v - v
        if (du, dv) == (0, 0) or not (dv == 0 or du == 0 or dv == du or dv == -du):
            return 3
    if not all(1 <= radius <= size for _, radius in discs):
        return 4
    ends = [end for line in lines for end in line]
    if not all(ends.count(end) == 2 for end in ends):
        return 5
    if any(shared_points(one, other) for one, other in itertools.combinations(lines, 2)):
        return 6
    return 0


def loops_slowly(lines):
    """The loops: lines are put together as long as two of them meet."""
    groups = [[number] for number in range(len(lines))]
    changed = True
    while changed:
        changed = False
        for one, other in itertools.combinations(groups, 2):
            if any(set(lines[a]) & set(lines[b]) for a in one for b in other):
                groups.remove(one)
                groups.remove(other)
                groups.append(sorted(one + other))
                changed = True
                break
    return sorted(groups)


def lies_in_loop(lines, u, v):
    """True if a ray upwards, in v, meets an odd number of the lines of a loop."""
    many = 0
    for (first_u, first_v), (second_u, second_v) in lines:
        if min(first_u, second_u) < u < max(first_u, second_u):
            at = first_v + Fraction(second_v - first_v, second_u - first_u) * (u - first_u)
            many += at > v
    return many % 2 == 1


def lies_in_slow_disc(place, radius, u, v):
    du, dv = abs(u - place[0]), abs(v - place[1])
    return du <= radius and dv <= radius and du + dv <= (181 * radius + 64) // 128


def region_slowly(test, lines, discs, size):
    """Point 38: the quarters of which three inner points lie in the region; all three or none."""
    rows = [[lines[number] for number in loop] for loop in loops_slowly(lines)]
    found = []
    for u, v, quarter in itertools.product(range(size), range(size), range(4)):
        told = []
        for du, dv in INSIDE[quarter]:
            point = (u + Fraction(du, 64), v + Fraction(dv, 64))
            many = sum(lies_in_loop(row, *point) for row in rows)
            many += sum(lies_in_slow_disc(place, radius, *point) for place, radius in discs)
            told.append(many % 2 == 1)
        test.assertEqual(len(set(told)), 1)
        if told[0]:
            found.append((u, v, quarter))
    return found


def squares(low_u, low_v, high_u, high_v):
    return [(u, v, k) for u in range(low_u, high_u) for v in range(low_v, high_v) for k in range(4)]


class Point35(unittest.TestCase):
    """The profiles, and the order in which they are told."""

    def test_sound_sketches(self):
        self.assertEqual(profile_of(sketch_of([])), 0)
        self.assertEqual(profile_of(sketch_of([(100, 200), (-3, 7)])), 0)
        self.assertEqual(profile_of(ring_of_lines(*rectangle(0, 0, 6, 6))), 0)
        self.assertEqual(profile_of(ring_of_lines((1, 0), (2, 1), (1, 2), (0, 1)), 2), 0)
        self.assertEqual(profile_of(rings_of_lines(rectangle(0, 0, 6, 6), rectangle(1, 1, 5, 5)), 6), 0)
        self.assertEqual(profile_of(sketch_of([(6, 0)], discs=[(0, "6"), (0, "1")])), 0)

    def test_1_for_the_states_2_and_3(self):
        points = [(0, 0), (99, 99)]
        self.assertEqual(profile_of(sketch_of(points, [(0, 1)], constraints=[(0, 0, 0, 0, "x")])), 1)
        bad = sketch_of(points, [(0, 1)], [(0, "0")], constraints=[(0, 0, 0, 0, "1"), (0, 0, 0, 0, "2")])
        self.assertEqual(profile_of(bad), 1)
        bad.drop_constraint(0)
        self.assertEqual(profile_of(bad), 2)

    def test_2_for_places_that_are_not_whole_or_not_in_the_room(self):
        for place in ((-1, 0), (0, -1), (4, 0), (0, 4)):
            self.assertEqual(profile_of(sketch_of([place, (1, 1)], [(0, 1)]), 3), 2)
            self.assertEqual(profile_of(sketch_of([(1, 1), place], [(0, 1)]), 3), 2)
            self.assertEqual(profile_of(sketch_of([place], discs=[(0, "0")]), 3), 2)
        for place in ((0, 3), (3, 0), (3, 3), (0, 0)):
            self.assertEqual(profile_of(sketch_of([place], discs=[(0, "1")]), 3), 0)
            self.assertEqual(profile_of(sketch_of([place, (1, 2)], [(0, 1)]), 2), 2 if 3 in place else 3)

    def test_2_for_halves(self):
        for middle in ((0, 1), (1, 0)):
            points = [(0, 0), middle, (1, 1)]
            halves = sketch_of(points, constraints=[(0, 0, 0, 0, "0"), (1, 0, 0, 0, "0"), (0, 1, 0, 0, str(middle[0])),
                                                    (1, 1, 0, 0, str(middle[1])), (11, 0, 1, 2, "")])
            self.assertEqual(profile_of(halves), 0)
            with_line = halves.copy()
            with_line.add_line(2, 0)
            self.assertEqual(profile_of(with_line), 2)
            with_disc = halves.copy()
            with_disc.add_disc(2, "1")
            self.assertEqual(profile_of(with_disc), 2)
            with_disc.add_disc(0, "x")
            with_disc.drop_disc(0)
            self.assertEqual(profile_of(with_disc), 4)

    def test_points_without_lines_and_discs_do_not_count(self):
        sketch = ring_of_lines(*rectangle(0, 0, 1, 1))
        sketch.add_point(-5, 200)
        self.assertEqual(profile_of(sketch, 2), 0)

    def test_3_for_other_directions(self):
        for du, dv in itertools.product(range(-3, 4), repeat=2):
            sketch = sketch_of([(3, 3), (3 + du, 3 + dv)], [(0, 1)], [(0, "0")])
            good = (du, dv) != (0, 0) and (du == 0 or dv == 0 or du in (dv, -dv))
            self.assertEqual(profile_of(sketch), 4 if good else 3, (du, dv))

    def test_4_for_wrong_radii(self):
        values = Values()
        values.define("r", "2 mm")
        for text, wanted in (("1", 0), ("3", 0), ("4", 4), ("0", 4), ("-1", 4), ("r", 0), ("r * r", 4), ("r / 4", 4),
                             ("s", 4), ("1 / 0", 4), ("r + 1 mm", 0)):
            for lines in ([], [(0, 1)]):
                sketch = sketch_of([(0, 0), (1, 1)], lines, [(0, "1"), (1, text)])
                self.assertEqual(profile_of(sketch, 3, values), wanted or 5 * len(lines), text)
        self.assertEqual(profile_of(sketch_of([(0, 0)], discs=[(0, "4")]), 4), 0)

    def test_5_for_ends(self):
        corners = rectangle(0, 0, 2, 2)
        sketch = ring_of_lines(*corners)
        sketch.drop_line(2)
        self.assertEqual(profile_of(sketch), 5)
        sketch.add_line(2, 3)
        self.assertEqual(profile_of(sketch), 0)
        sketch.add_line(0, 2)
        self.assertEqual(profile_of(sketch), 5)
        sketch.drop_line(5)
        sketch.add_line(1, 3)
        self.assertEqual(profile_of(sketch), 5)

    def test_5_counts_places_instead_of_points(self):
        places = [(0, 0), (2, 0), (2, 2), (0, 2)]
        points = [place for pair in zip(places, places[1:] + places[:1]) for place in pair]
        sketch = sketch_of(points, [(k, k + 1) for k in range(0, 8, 2)])
        self.assertEqual(profile_of(sketch), 0)
        self.assertEqual(loops(sketch, Values(), 6), [[0, 1, 2, 3]])
        touching = rings_of_lines(rectangle(0, 0, 2, 2), rectangle(2, 2, 3, 3))
        self.assertEqual(profile_of(touching), 5)

    def test_6_for_crossings(self):
        # Lines that cross in whole numbers and in halves, that touch, and that lie on each other.
        self.assertEqual(profile_of(rings_of_lines(rectangle(0, 0, 2, 2), rectangle(1, 1, 3, 3))), 6)
        self.assertEqual(profile_of(ring_of_lines((0, 0), (1, 1), (1, 0), (0, 1))), 6)
        self.assertEqual(profile_of(rings_of_lines(rectangle(0, 0, 4, 4), ((2, 0), (3, 1), (2, 2), (1, 1)))), 6)
        self.assertEqual(profile_of(rings_of_lines(rectangle(0, 0, 4, 4), rectangle(1, 0, 2, 1))), 6)
        self.assertEqual(profile_of(sketch_of([(0, 0), (1, 0)], [(0, 1), (0, 1)])), 6)
        self.assertEqual(profile_of(sketch_of([(0, 0), (1, 1)], [(0, 1), (1, 0)])), 6)
        back = ring_of_lines((0, 0), (3, 0), (3, 1), (2, 1), (2, 0), (1, 0), (1, 1), (0, 1))
        self.assertEqual(profile_of(back), 6)

    def test_6_all_along_a_line_and_whichever_end_is_the_first(self):
        frame = [(0, 0), (6, 0), (6, 6), (0, 6)]
        corners = [(0, 0), (1, 1), (0, 2), (-1, 1)]
        for k, turned in itertools.product(range(1, 6), (False, True)):
            # A diamond that touches the upper side of the frame, and one that crosses it in halves.
            for low in (4, 3):
                places = [(k + u, low + v) for u, v in corners]
                for flip in itertools.product((False, True), repeat=4):
                    points = frame + places
                    lines = [(0, 1), (1, 2), (3, 2) if turned else (2, 3), (3, 0)]
                    for at, back in enumerate(flip):
                        ends = (4 + at, 4 + (at + 1) % 4)
                        lines.append(ends[::-1] if back else ends)
                    crossed = low == 4 or k in (1, 5)
                    wanted = profile_slowly([(points[a], points[b]) for a, b in lines], [], 6)
                    self.assertEqual(profile_of(sketch_of(points, lines)), wanted)
                    self.assertEqual(wanted, 6 if crossed else 0)
        for k in range(1, 6):
            for low in (5, -1):
                places = [(k + u, low + v) for u, v in corners]
                self.assertEqual(profile_of(rings_of_lines(frame, places)), 2)

    def test_6_for_crossings_in_halves_all_along_slanted_lines(self):
        for k in (2, 3, 4):
            # The line from (0, 0) to (6, 6) meets two falling ones of a diamond in halves.
            diamond = ((k - 1, k), (k, k - 1), (k + 1, k), (k, k + 1))
            for frame in (((0, 0), (6, 6), (0, 6)), ((6, 6), (0, 0), (0, 6))):
                self.assertEqual(profile_of(rings_of_lines(frame, diamond)), 6)
                self.assertEqual(profile_of(rings_of_lines(diamond[::-1], frame)), 6)

    def test_the_first_number_counts(self):
        points = [(0, 0), (1, 2), (3, 3), (4, 4), (9, 9)]
        constraints = [(0, 0, 0, 0, "0"), (0, 0, 0, 0, "1")]
        sketch = sketch_of(points, [(0, 1), (2, 3), (2, 3), (2, 4)], [(0, "9")], constraints)
        wanted = [1, 2, 3, 4, 5]
        steps = [lambda: sketch.drop_constraint(1), lambda: sketch.drop_line(3), lambda: sketch.drop_line(0),
                 lambda: sketch.drop_disc(0), None]
        sketch.add_line(0, 2)
        for number, step in zip(wanted, steps):
            self.assertEqual(profile_of(sketch), number)
            if step:
                step()
        sketch.drop_line(4)
        self.assertEqual(profile_of(sketch), 6)
        sketch.drop_line(1)
        sketch.drop_line(2)
        self.assertEqual(profile_of(sketch), 0)

    def test_by_chance(self):
        chance = random.Random(35)
        seen = {}
        for trial in range(2500):
            size = chance.choice((2, 3, 4))
            lines, discs, sketch = chance_drawing(chance, size)
            found = profile_of(sketch, size)
            self.assertEqual(found, profile_slowly(lines, discs, size), (lines, discs, size))
            seen[found] = seen.get(found, 0) + 1
        self.assertTrue(all(seen[number] > 20 for number in (0, 2, 3, 4, 5, 6)), seen)

    def test_nothing_is_modified(self):
        sketch = rings_of_lines(rectangle(0, 0, 4, 4), rectangle(1, 1, 3, 3), discs=[(2, 2, "1")])
        before = (sketch.points(), sketch.lines(), sketch.discs(), sketch.constraints())
        for work in (profile, loops, region, is_straight):
            work(sketch, Values(), 4)
        self.assertEqual((sketch.points(), sketch.lines(), sketch.discs(), sketch.constraints()), before)


def chance_drawing(chance, size):
    """Rings of lines and discs by chance, of which many are not sound."""
    rows = []
    for _ in range(chance.randint(0, 2)):
        u, v = chance.randint(0, size - 1), chance.randint(0, size - 1)
        width, height = chance.randint(1, size), chance.randint(1, size)
        corners = rectangle(u, v, min(size, u + width), min(size, v + height))
        if chance.random() < 0.4:
            k = chance.randint(1, 2)
            corners = ((u + k, v), (u + 2 * k, v + k), (u + k, v + 2 * k), (u, v + k))
        if chance.random() < 0.15:
            corners = corners[:3]
        if chance.random() < 0.1:
            corners = corners[:2]
        if chance.random() < 0.1:
            corners = (corners[0], (corners[1][0], corners[1][1] + 1)) + corners[2:]
        rows.append(corners)
    discs = []
    for _ in range(chance.choice((0, 0, 1, 2))):
        discs.append(((chance.randint(0, size), chance.randint(0, size)), chance.choice((1, 1, 2, 2, size, size, size + 1))))
    sketch = rings_of_lines(*rows, discs=[(u, v, str(radius)) for (u, v), radius in discs])
    lines = [(row[k], row[(k + 1) % len(row)]) for row in rows for k in range(len(row))]
    return lines, discs, sketch


class Point36(unittest.TestCase):
    """Loops."""

    def test_their_order(self):
        sketch = rings_of_lines(rectangle(0, 0, 5, 5), rectangle(1, 1, 4, 4), ((2, 2), (3, 2), (3, 3)))
        values = Values()
        self.assertEqual(loops(sketch, values, 5), [[0, 1, 2, 3], [4, 5, 6, 7], [8, 9, 10]])
        sketch.drop_line(0)
        self.assertEqual(refusal(loops, sketch, values, 5), ("ProfileFault", 5))
        sketch.add_line(1, 0)
        self.assertEqual(loops(sketch, values, 5), [[1, 2, 3, 11], [4, 5, 6, 7], [8, 9, 10]])

    def test_lines_of_different_loops_in_turns(self):
        points = [*rectangle(0, 0, 1, 1), *rectangle(2, 2, 4, 4)]
        lines = [(4, 5), (0, 1), (1, 2), (5, 6), (2, 3), (6, 7), (3, 0), (7, 4)]
        sketch = sketch_of(points, lines)
        self.assertEqual(loops(sketch, Values(), 4), [[0, 3, 5, 7], [1, 2, 4, 6]])
        self.assertEqual(refusal(loops, sketch, Values(), 3), ("ProfileFault", 2))

    def test_without_lines(self):
        self.assertEqual(loops(sketch_of([(1, 1)], discs=[(0, "1")]), Values(), 2), [])


class Point37(unittest.TestCase):
    """Discs."""

    def test_the_bound(self):
        self.assertEqual([disc_bound(radius) for radius in range(1, 13)], [1, 3, 4, 6, 7, 8, 10, 11, 13, 14, 16, 17])
        for radius in range(1, 65):
            self.assertEqual(disc_bound(radius), int(Fraction(181 * radius + 64, 128)))
        self.assertEqual(disc_bound(64), 91)

    def test_the_border_belongs_to_a_disc(self):
        for radius in (1, 2, 3):
            bound = 8 * disc_bound(radius)
            far = 8 * radius
            for du, dv in itertools.product((far, far - 1, far + 1, bound - far, bound - far + 1, bound // 2, 0), repeat=2):
                wanted = du <= far and dv <= far and du + dv <= bound
                for point in ((du, dv), (-du, dv), (du, -dv), (-du, -dv)):
                    self.assertIs(in_disc(radius, *point), wanted)

    def test_the_quarters_of_small_discs(self):
        # A disc of the radius 1 is a square on its corner, larger ones have eight sides.
        one = region(sketch_of([(1, 1)], discs=[(0, "1")]), Values(), 2)
        self.assertEqual(one, [(0, 0, 1), (0, 0, 2), (0, 1, 0), (0, 1, 1), (1, 0, 2), (1, 0, 3), (1, 1, 0), (1, 1, 3)])
        two = region(sketch_of([(2, 2)], discs=[(0, "2")]), Values(), 4)
        corners = [(0, 0, 0), (0, 0, 3), (0, 3, 2), (0, 3, 3), (3, 0, 0), (3, 0, 1), (3, 3, 1), (3, 3, 2)]
        self.assertEqual(two, [one for one in squares(0, 0, 4, 4) if one not in corners])

    def test_what_lies_out_of_the_room_is_left_out(self):
        found = region(sketch_of([(0, 2)], discs=[(0, "2")]), Values(), 2)
        self.assertEqual(found, [one for one in squares(0, 0, 2, 2) if one not in ((1, 0, 0), (1, 0, 1))])


class Point38(unittest.TestCase):
    """Regions."""

    def test_squares(self):
        sketch = ring_of_lines(*rectangle(1, 0, 3, 2))
        self.assertEqual(region(sketch, Values(), 3), squares(1, 0, 3, 2))
        self.assertEqual(region(sketch_of([]), Values(), 3), [])

    def test_slanted_lines(self):
        found = region(ring_of_lines((1, 0), (2, 1), (1, 2), (0, 1)), Values(), 2)
        self.assertEqual(found, [(0, 0, 1), (0, 0, 2), (0, 1, 0), (0, 1, 1), (1, 0, 2), (1, 0, 3), (1, 1, 0), (1, 1, 3)])
        self.assertEqual(region(ring_of_lines((0, 0), (1, 1), (0, 1)), Values(), 2), [(0, 0, 2), (0, 0, 3)])
        self.assertEqual(region(ring_of_lines((0, 0), (1, 0), (0, 1)), Values(), 2), [(0, 0, 0), (0, 0, 3)])

    def test_an_odd_number_of_loops_and_discs(self):
        sketch = rings_of_lines(rectangle(0, 0, 6, 6), rectangle(1, 1, 5, 5), rectangle(2, 2, 4, 4))
        inner = squares(1, 1, 5, 5)
        wanted = [one for one in squares(0, 0, 6, 6) if one not in inner] + squares(2, 2, 4, 4)
        self.assertEqual(region(sketch, Values(), 6), sorted(wanted))
        twice = sketch_of([(3, 3), (3, 3)], discs=[(0, "2"), (1, "2")])
        self.assertEqual(region(twice, Values(), 6), [])
        thrice = sketch_of([(3, 3), (3, 3)], discs=[(0, "2"), (1, "2"), (0, "2")])
        self.assertEqual(len(region(thrice, Values(), 6)), 16 * 4 - 8)

    def test_by_chance(self):
        chance = random.Random(38)
        many = 0
        while many < 150:
            size = chance.choice((2, 3, 4))
            lines, discs, sketch = chance_drawing(chance, size)
            if profile_of(sketch, size) == 0:
                many += 1
                self.assertEqual(region(sketch, Values(), size), region_slowly(self, lines, discs, size))
                self.assertEqual(loops(sketch, Values(), size), loops_slowly(lines))

    def test_refused_profiles(self):
        wrong = {
            1: sketch_of([(0, 0)], constraints=[(0, 0, 0, 0, "x")]),
            2: sketch_of([(4, 0), (0, 0)], [(0, 1)]),
            3: sketch_of([(2, 1), (0, 0)], [(0, 1)]),
            4: sketch_of([(0, 0)], discs=[(0, "4")]),
            5: sketch_of([(1, 1), (0, 0)], [(0, 1)]),
            6: sketch_of([(1, 1), (0, 0)], [(0, 1), (0, 1)]),
        }
        for number, sketch in wrong.items():
            for work in (loops, region, is_straight):
                self.assertEqual(refusal(work, sketch, Values(), 3), ("ProfileFault", number))


class Point39(unittest.TestCase):
    """Straight sketches."""

    def test_straight_and_not_straight(self):
        values = Values()
        self.assertIs(is_straight(ring_of_lines(*rectangle(0, 0, 2, 3)), values, 3), True)
        self.assertIs(is_straight(sketch_of([]), values, 3), True)
        self.assertIs(is_straight(ring_of_lines((0, 0), (1, 1), (0, 1)), values, 3), False)
        self.assertIs(is_straight(ring_of_lines((0, 0), (1, 0), (0, 1)), values, 3), False)
        self.assertIs(is_straight(sketch_of([(1, 1)], discs=[(0, "1")]), values, 3), False)
        self.assertIs(is_straight(ring_of_lines(*rectangle(0, 0, 2, 3), discs=[(1, 1, "1")]), values, 3), False)
        self.assertIs(is_straight(rings_of_lines(rectangle(0, 0, 4, 4), ((1, 1), (2, 1), (2, 2))), values, 4), False)

    def test_squares_lie_completely_inside_or_outside(self):
        sketch = ring_of_lines((0, 0), (3, 0), (3, 1), (1, 1), (1, 3), (0, 3))
        self.assertEqual(region(sketch, Values(), 3), squares(0, 0, 1, 3) + squares(1, 0, 3, 1))


if __name__ == "__main__":
    unittest.main()
