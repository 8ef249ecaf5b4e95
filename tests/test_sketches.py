"""Points 25 and 26: what a sketch keeps and refuses."""

import unittest

from helping import refusal
from partloft.sketches import Sketch

ONE_POINT = (0, 1)
THREE_POINTS = (11, 12, 13, 14, 15, 16)
TWO_POINTS = (2, 3, 4, 5, 6, 7, 8, 9, 10)
LINES = (17, 18, 19, 20, 21, 22, 23)


def seen(sketch):
    """All that can be asked of a sketch."""
    return (sketch.axis(), sketch.offset(), sketch.points(), sketch.lines(), sketch.discs(), sketch.constraints())


def drawn(points=4, lines=0):
    """A sketch with so many points, and with lines from each to the next one."""
    sketch = Sketch(2, 1)
    for number in range(points):
        sketch.add_point(number, 10 * number)
    for number in range(lines):
        sketch.add_line(number % points, (number + 1) % points)
    return sketch


class Checked(unittest.TestCase):
    def check_refused(self, sketch, wanted, work, *arguments):
        """A refused call changes nothing (point 4)."""
        before = seen(sketch)
        self.assertEqual(refusal(work, *arguments), wanted)
        self.assertEqual(seen(sketch), before)


class Point25(Checked):
    """The axis and offset, points, lines, discs, and how many there may be."""

    def test_axes_and_offsets(self):
        for axis in range(3):
            for offset in range(7):
                self.assertEqual(seen(Sketch(axis, offset)), (axis, offset, [], {}, {}, {}))
        for axis in (-1, 3, 100):
            self.assertEqual(refusal(Sketch, axis, 0), ("InvalidSketch", "axis"))
            self.assertEqual(refusal(Sketch, axis, 7), ("InvalidSketch", "axis"))
        for offset in (-1, 7, 100):
            self.assertEqual(refusal(Sketch, 0, offset), ("InvalidSketch", "offset"))

    def test_points(self):
        sketch = Sketch(0, 0)
        places = [(0, 0), (200, -200), (-200, 200), (0, 0)]
        self.assertEqual([sketch.add_point(u, v) for (u, v) in places], [0, 1, 2, 3])
        self.assertEqual(sketch.points(), places)
        for u, v in ((201, 0), (0, 201), (-201, 0), (0, -201), (1000, 1000)):
            self.check_refused(sketch, ("InvalidSketch", "place"), sketch.add_point, u, v)
        self.assertEqual(sketch.add_point(1, 1), 4)

    def test_12_points_and_a_13th(self):
        sketch = drawn(12)
        self.assertEqual(len(sketch.points()), 12)
        self.check_refused(sketch, ("TooMany", "points"), sketch.add_point, 0, 0)
        self.check_refused(sketch, ("InvalidSketch", "place"), sketch.add_point, 201, 0)

    def test_moving_points(self):
        sketch = drawn(3, 2)
        self.assertIsNone(sketch.move_point(1, -200, 200))
        self.assertEqual(sketch.points(), [(0, 0), (-200, 200), (2, 20)])
        self.check_refused(sketch, ("NoSuchPart", "point", 3), sketch.move_point, 3, 0, 0)
        self.check_refused(sketch, ("NoSuchPart", "point", 3), sketch.move_point, 3, 201, 0)
        self.check_refused(sketch, ("NoSuchPart", "point", -1), sketch.move_point, -1, 0, 0)
        self.check_refused(sketch, ("InvalidSketch", "place"), sketch.move_point, 0, 0, -201)
        self.check_refused(sketch, ("InvalidSketch", "place"), sketch.move_point, 0, 201, 0)
        full = drawn(12)
        full.move_point(11, 5, 5)
        self.assertEqual(full.points()[11], (5, 5))

    def test_lines(self):
        sketch = drawn(3)
        self.assertEqual([sketch.add_line(0, 1), sketch.add_line(1, 0), sketch.add_line(2, 1)], [0, 1, 2])
        self.assertEqual(sketch.lines(), {0: (0, 1), 1: (1, 0), 2: (2, 1)})
        self.check_refused(sketch, ("NoSuchPart", "point", 3), sketch.add_line, 3, 4)
        self.check_refused(sketch, ("NoSuchPart", "point", 4), sketch.add_line, 0, 4)
        self.check_refused(sketch, ("NoSuchPart", "point", -1), sketch.add_line, -1, 4)
        self.check_refused(sketch, ("NoSuchPart", "point", 3), sketch.add_line, 3, 3)
        self.check_refused(sketch, ("InvalidSketch", "line"), sketch.add_line, 2, 2)

    def test_24_lines_and_a_25th(self):
        sketch = drawn(4, 24)
        self.check_refused(sketch, ("TooMany", "lines"), sketch.add_line, 0, 1)
        self.check_refused(sketch, ("InvalidSketch", "line"), sketch.add_line, 1, 1)
        self.check_refused(sketch, ("NoSuchPart", "point", 4), sketch.add_line, 4, 4)
        sketch.drop_line(23)
        sketch.drop_line(0)
        self.check_refused(sketch, ("TooMany", "lines"), sketch.add_line, 0, 1)

    def test_discs(self):
        sketch = drawn(2)
        self.assertEqual([sketch.add_disc(1, "r"), sketch.add_disc(1, " 2 ")], [0, 1])
        self.assertEqual(sketch.discs(), {0: (1, "r"), 1: (1, " 2 ")})
        self.check_refused(sketch, ("NoSuchPart", "point", 2), sketch.add_disc, 2, "1 +")
        self.check_refused(sketch, ("NoSuchPart", "point", -1), sketch.add_disc, -1, "1")
        self.check_refused(sketch, ("InvalidFormula", 3), sketch.add_disc, 1, "1 +")

    def test_6_discs_and_a_7th(self):
        sketch = drawn(2)
        for number in range(6):
            self.assertEqual(sketch.add_disc(0, "1"), number)
        self.check_refused(sketch, ("TooMany", "discs"), sketch.add_disc, 0, "1")
        self.check_refused(sketch, ("InvalidFormula", 0), sketch.add_disc, 0, "")
        self.check_refused(sketch, ("NoSuchPart", "point", 9), sketch.add_disc, 9, "1")
        sketch.drop_disc(2)
        self.check_refused(sketch, ("TooMany", "discs"), sketch.add_disc, 0, "1")

    def test_32_constraints_and_a_33rd(self):
        sketch = drawn(2, 1)
        for number in range(32):
            self.assertEqual(sketch.add_constraint(number % 11, 0, 1, 0, "1"), number)
        self.check_refused(sketch, ("TooMany", "constraints"), sketch.add_constraint, 0, 0, 0, 0, "1")
        self.check_refused(sketch, ("InvalidFormula", 0), sketch.add_constraint, 0, 0, 0, 0, "")
        self.check_refused(sketch, ("NoSuchPart", "point", 2), sketch.add_constraint, 0, 2, 0, 0, "")
        self.check_refused(sketch, ("InvalidSketch", "kind"), sketch.add_constraint, 24, 2, 0, 0, "")
        sketch.drop_constraint(0)
        sketch.drop_constraint(31)
        self.check_refused(sketch, ("TooMany", "constraints"), sketch.add_constraint, 6, 0, 1, 0, "")

    def test_numbers_are_not_used_again(self):
        sketch = drawn(3, 3)
        self.assertIsNone(sketch.drop_line(2))
        self.assertIsNone(sketch.drop_line(0))
        self.assertEqual(sketch.lines(), {1: (1, 2)})
        self.assertEqual(sketch.add_line(0, 2), 3)
        self.assertEqual(list(sketch.lines().items()), [(1, (1, 2)), (3, (0, 2))])
        sketch.add_disc(0, "1")
        self.assertIsNone(sketch.drop_disc(0))
        self.assertEqual(sketch.add_disc(1, "2"), 1)
        self.assertEqual(sketch.discs(), {1: (1, "2")})
        sketch.add_constraint(0, 0, 0, 0, "1")
        self.assertIsNone(sketch.drop_constraint(0))
        self.assertEqual(sketch.add_constraint(1, 2, 0, 0, "3"), 1)
        self.assertEqual(sketch.constraints(), {1: (1, 2, 0, 0, "3")})

    def test_dropping_what_is_not_there(self):
        sketch = drawn(3, 2)
        sketch.add_disc(0, "1")
        sketch.add_constraint(0, 0, 0, 0, "1")
        sketch.drop_line(1)
        sketch.drop_disc(0)
        sketch.drop_constraint(0)
        for number in (1, 2, -1):
            self.check_refused(sketch, ("NoSuchPart", "line", number), sketch.drop_line, number)
        for number in (0, 1, -1):
            self.check_refused(sketch, ("NoSuchPart", "disc", number), sketch.drop_disc, number)
            self.check_refused(sketch, ("NoSuchPart", "constraint", number), sketch.drop_constraint, number)

    def test_a_line_that_a_constraint_is_about_stays(self):
        for kind in LINES:
            for a, b in ((1, 2), (2, 1), (1, 1)):
                sketch = drawn(4, 4)
                number = sketch.add_constraint(kind, a, b, 0, "")
                self.check_refused(sketch, ("InvalidSketch", "line"), sketch.drop_line, 1)
                sketch.drop_line(0)
                sketch.drop_line(3)
                sketch.drop_constraint(number)
                sketch.drop_line(1)
                self.assertEqual(sorted(sketch.lines()), [2])

    def test_constraints_about_points_keep_no_line(self):
        sketch = drawn(4, 4)
        for kind in range(17):
            sketch.add_constraint(kind, 1, 1, 1, "1")
        sketch.drop_line(1)
        self.assertEqual(sorted(sketch.lines()), [0, 2, 3])

    def test_the_third_of_a_constraint_about_lines_keeps_no_line(self):
        sketch = drawn(4, 4)
        sketch.add_constraint(17, 2, 3, 1, "")
        sketch.drop_line(0)
        sketch.drop_line(1)
        self.assertEqual(sorted(sketch.lines()), [2, 3])


class Point26(Checked):
    """The kinds of constraints and what they are about."""

    def test_what_each_kind_keeps(self):
        sketch = drawn(4, 4)
        wanted = {}
        for kind in range(24):
            text = "w + 1" if kind < 6 else ""
            if kind in ONE_POINT:
                row = (kind, 3, 0, 0, text)
            elif kind in THREE_POINTS:
                row = (kind, 3, 2, 1, text)
            else:
                row = (kind, 3, 2, 0, text)
            self.assertEqual(sketch.add_constraint(kind, 3, 2, 1, "w + 1"), kind)
            wanted[kind] = row
        self.assertEqual(sketch.constraints(), wanted)
        self.assertEqual(list(sketch.constraints()), list(range(24)))

    def test_kinds_beyond_the_bounds(self):
        sketch = drawn(4, 4)
        for kind in (-1, 24, 100):
            self.check_refused(sketch, ("InvalidSketch", "kind"), sketch.add_constraint, kind, 9, 9, 9, "1 +")

    def test_points_that_are_not_there(self):
        sketch = drawn(4, 9)
        for kind in ONE_POINT + TWO_POINTS + THREE_POINTS:
            self.check_refused(sketch, ("NoSuchPart", "point", 4), sketch.add_constraint, kind, 4, 5, 6, "1 +")
            self.check_refused(sketch, ("NoSuchPart", "point", -1), sketch.add_constraint, kind, -1, 5, 6, "1 +")
        for kind in TWO_POINTS + THREE_POINTS:
            self.check_refused(sketch, ("NoSuchPart", "point", 5), sketch.add_constraint, kind, 0, 5, 6, "1 +")
        for kind in THREE_POINTS:
            self.check_refused(sketch, ("NoSuchPart", "point", 6), sketch.add_constraint, kind, 0, 1, 6, "1 +")

    def test_lines_that_are_not_there(self):
        sketch = drawn(9, 4)
        sketch.drop_line(2)
        for kind in LINES:
            self.check_refused(sketch, ("NoSuchPart", "line", 4), sketch.add_constraint, kind, 4, 5, 6, "1 +")
            self.check_refused(sketch, ("NoSuchPart", "line", 5), sketch.add_constraint, kind, 0, 5, 6, "1 +")
            self.check_refused(sketch, ("NoSuchPart", "line", 2), sketch.add_constraint, kind, 2, 5, 6, "1 +")
            self.check_refused(sketch, ("NoSuchPart", "line", -1), sketch.add_constraint, kind, 3, -1, 6, "1 +")

    def test_what_a_kind_does_not_have_is_not_looked_at(self):
        sketch = drawn(4, 4)
        for kind in ONE_POINT:
            number = sketch.add_constraint(kind, 3, 99, -7, "1")
            self.assertEqual(sketch.constraints()[number], (kind, 3, 0, 0, "1"))
        for kind in TWO_POINTS + LINES:
            number = sketch.add_constraint(kind, 3, 1, 99, "1")
            self.assertEqual(sketch.constraints()[number], (kind, 3, 1, 0, "1" if kind < 6 else ""))

    def test_formulas(self):
        sketch = drawn(4, 4)
        for kind in range(6):
            self.check_refused(sketch, ("InvalidFormula", 3), sketch.add_constraint, kind, 0, 1, 2, "1 +")
            self.check_refused(sketch, ("InvalidFormula", 240), sketch.add_constraint, kind, 0, 1, 2, "1" * 241)
            number = sketch.add_constraint(kind, 0, 1, 2, "  1/0 + nothing ")
            self.assertEqual(sketch.constraints()[number][4], "  1/0 + nothing ")
        for kind in range(6, 24):
            number = sketch.add_constraint(kind, 0, 1, 2, "1 +")
            self.assertEqual(sketch.constraints()[number][4], "")

    def test_the_same_may_occur_several_times(self):
        sketch = drawn(4, 4)
        for kind in range(24):
            sketch.add_constraint(kind, 1, 1, 1, "1")
        self.assertEqual(sketch.constraints()[14], (14, 1, 1, 1, ""))
        self.assertEqual(sketch.constraints()[17], (17, 1, 1, 0, ""))


class Copies(unittest.TestCase):
    """Point 3: a copy and what is returned do not change with the sketch, nor it with them."""

    def full(self):
        sketch = drawn(4, 4)
        sketch.add_disc(1, "1")
        sketch.add_disc(2, "2")
        sketch.add_constraint(0, 1, 0, 0, "1")
        sketch.add_constraint(18, 1, 2, 0, "")
        sketch.drop_line(3)
        sketch.drop_disc(1)
        sketch.drop_constraint(0)
        return sketch

    def change(self, sketch):
        sketch.move_point(0, 50, 50)
        sketch.add_point(1, 1)
        sketch.drop_line(0)
        sketch.add_line(0, 4)
        sketch.drop_disc(0)
        sketch.add_disc(3, "3")
        sketch.drop_constraint(1)
        sketch.add_constraint(6, 0, 1, 0, "")

    def test_a_copy_has_the_same_parts_and_numbers(self):
        sketch = self.full()
        twin = sketch.copy()
        self.assertIsNot(twin, sketch)
        self.assertIsInstance(twin, Sketch)
        self.assertEqual(seen(twin), seen(sketch))
        numbers = [(one.add_point(0, 0), one.add_line(0, 1), one.add_disc(0, "1"), one.add_constraint(6, 0, 1, 0, ""))
                   for one in (sketch, twin)]
        self.assertEqual(numbers, [(4, 4, 2, 2), (4, 4, 2, 2)])

    def test_a_copy_has_the_same_bounds(self):
        sketch = drawn(4, 24)
        sketch.drop_line(5)
        self.assertEqual(refusal(sketch.copy().add_line, 0, 1), ("TooMany", "lines"))

    def test_a_copy_does_not_change_with_the_sketch(self):
        sketch = self.full()
        twin = sketch.copy()
        before = seen(twin)
        self.change(sketch)
        self.assertEqual(seen(twin), before)
        self.assertEqual(twin.add_line(0, 1), 4)

    def test_a_sketch_does_not_change_with_its_copy(self):
        sketch = self.full()
        before = seen(sketch)
        self.change(sketch.copy())
        self.assertEqual(seen(sketch), before)
        self.assertEqual(sketch.add_line(0, 1), 4)

    def test_a_sketch_does_not_change_with_what_was_returned(self):
        sketch = self.full()
        before = seen(sketch)
        sketch.points().append((9, 9))
        sketch.points()[0] = (9, 9)
        for table in (sketch.lines(), sketch.discs(), sketch.constraints()):
            table.clear()
            table[7] = (0, 0)
        self.assertEqual(seen(sketch), before)

    def test_what_was_returned_does_not_change_with_the_sketch(self):
        sketch = self.full()
        kept = seen(sketch)
        wanted = (kept[0], kept[1], list(kept[2]), dict(kept[3]), dict(kept[4]), dict(kept[5]))
        self.change(sketch)
        self.assertEqual(kept, wanted)

    def test_two_sketches_share_nothing(self):
        one, other = Sketch(0, 0), Sketch(0, 0)
        one.add_point(1, 1)
        self.assertEqual(seen(other), (0, 0, [], {}, {}, {}))


class Interface(unittest.TestCase):
    def test_each_method_is_defined_in_the_class(self):
        for name in ("__init__", "axis", "offset", "add_point", "move_point", "add_line", "add_disc", "add_constraint",
                     "drop_line", "drop_disc", "drop_constraint", "points", "lines", "discs", "constraints", "copy"):
            self.assertIn(name, vars(Sketch))


if __name__ == "__main__":
    unittest.main()
