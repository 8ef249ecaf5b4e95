"""Points 92 and 93: what each kind of feature does to the solid, states and reasons."""

import itertools
import unittest

from helping import block, picked, ring_of_lines, sketch_of
from partloft.bodies import body_of
from partloft.faces import faces_of
from partloft.grains import facet_corners, grain_count, middle_of, neighbour_at
from partloft.histories import History
from partloft.repeating import mirror_of, ring_of, row_of
from partloft.solids import Solid, empty, whole


def texts(*numbers):
    return tuple(str(number) for number in numbers)


def history_of(size, *features):
    """A rebuilt history of features (kind, op, of, fields)."""
    history = History(size)
    for feature in features:
        history.add_feature(*feature)
    history.rebuild()
    return history


def block_feature(low, high, op="unite"):
    return ("block", op, None, texts(*low, *high))


def copy_sketch(source, target):
    """Adds the parts of a sketch to one that is empty."""
    for place in source.points():
        target.add_point(*place)
    for ends in source.lines().values():
        target.add_line(*ends)
    for disc in source.discs().values():
        target.add_disc(*disc)
    for constraint in source.constraints().values():
        target.add_constraint(*constraint)


FIRST = block_feature((0, 0, 0), (2, 2, 1))
SECOND = ("wedge", "unite", None, texts(1, 0, 0, 3, 2, 2, 6))


def first_part(size):
    """What the features FIRST and SECOND make."""
    wedge = body_of(size, "wedge", [1, 0, 0, 3, 2, 2, 6], None, None, None)
    return block(size, (0, 0, 0), (2, 2, 1)).united(wedge)


class Told(unittest.TestCase):
    def check(self, history, feature, state, reason, solid=None):
        self.assertEqual((history.state(feature), history.reason(feature)), (state, reason))
        if solid is not None:
            self.assertEqual(history.solid_after(feature), solid)

    def check_change(self, kind, fields, wanted, size=3):
        """What a kind without a tool makes of the first part; None if it fails with this reason."""
        history = history_of(size, FIRST, SECOND, (kind, "", None, fields))
        self.assertEqual(history.solid_after(1), first_part(size))
        self.assertIsNone(history.tool(2))
        if isinstance(wanted, tuple):
            self.check(history, 2, "failed", wanted, first_part(size))
            self.assertEqual(history.solid(), first_part(size))
        else:
            self.check(history, 2, "good", (), wanted)
            self.assertEqual(history.solid(), wanted)


class Tools(Told):
    """Features with a tool."""

    def test_ops(self):
        one, other = block(3, (0, 0, 0), (2, 2, 2)), block(3, (1, 1, 1), (3, 3, 3))
        for op, wanted in (("unite", one.united(other)), ("less", one.less(other)), ("common", one.common(other))):
            history = history_of(3, block_feature((0, 0, 0), (2, 2, 2)), block_feature((1, 1, 1), (3, 3, 3), op))
            self.check(history, 0, "good", (), one)
            self.check(history, 1, "good", (), wanted)
            self.assertEqual(history.solid(), wanted)
            self.assertEqual((history.tool(0), history.tool(1)), (one, other))

    def test_bodies_without_a_sketch(self):
        for kind, of, fields in (("block", None, (0, 1, 0, 2, 2, 3)), ("wedge", None, (0, 0, 0, 2, 3, 2, 5)),
                                 ("hole", 0, (1, 2, 0, 2, 1)), ("hole", 2, (1, 2, 0, 2, 1)),
                                 ("step", 1, (1, 2, 0, 1, 2, 3, 1)), ("sink", 2, (1, 1, 0, 3, 2))):
            body = body_of(3, kind, list(fields), None, None, of)
            history = history_of(3, (kind, "unite", of, texts(*fields)))
            self.check(history, 0, "good", (), body)
            self.assertEqual(history.tool(0), body)

    def test_bodies_of_sketches(self):
        source = ring_of_lines((0, 0), (3, 0), (3, 1), (1, 1), (1, 3), (0, 3), axis=1, offset=1)
        source.add_constraint(0, 1, 0, 0, "reach")
        source.add_constraint(7, 1, 2, 0, "")
        for reach in (2, 3):
            for kind, fields in (("prism", (0, 1)), ("taper", (0, 2)), ("turn", (0,)), ("wall", (1, 0, 1))):
                history = History(3)
                history.value_table().define("reach", str(reach))
                history.add_sketch(0, 0)
                history.add_sketch(1, 1)
                copy_sketch(source, history.sketch(1))
                history.add_feature(kind, "unite", 1, texts(*fields))
                history.rebuild()
                body = body_of(3, kind, list(fields), source, history.value_table(), None)
                self.check(history, 0, "good", (), body)
                self.assertEqual(history.tool(0), body)

    def test_fields_are_formulas(self):
        history = History(3)
        history.value_table().define("a", "1 mm")
        history.add_feature("block", "unite", None, ("0", "a - 1 mm", "0", "2 * a", "4 / 2", "a"))
        history.rebuild()
        self.check(history, 0, "good", (), block(3, (0, 0, 0), (2, 2, 1)))

    def test_repetitions(self):
        body = body_of(3, "wedge", [0, 0, 0, 1, 1, 1, 2], None, None, None)
        tool = ("wedge", "unite", None, texts(0, 0, 0, 1, 1, 1, 2))
        for kind, fields, wanted in (("row", (3, 1, 0, 0), row_of(body, 3, 1, 0, 0)), ("row", (2, 0, 2, 1), row_of(body, 2, 0, 2, 1)),
                                     ("ring", (2, 3, 3, 4), ring_of(body, 2, 3, 3, 4)), ("ring", (0, 2, 2, 2), ring_of(body, 0, 2, 2, 2)),
                                     ("mirror", (1, 3), mirror_of(body, 1, 3)), ("mirror", (0, 2), mirror_of(body, 0, 2))):
            history = history_of(3, tool, block_feature((0, 0, 0), (3, 3, 3)), (kind, "common", 0, texts(*fields)))
            self.assertEqual(history.tool(2), wanted)
            self.check(history, 2, "good", (), wanted)

    def test_repetitions_take_the_tool_and_not_the_solid(self):
        history = history_of(3, block_feature((0, 0, 0), (3, 3, 1)), block_feature((0, 0, 0), (1, 1, 3), "less"),
                             ("row", "less", 1, texts(3, 1, 0, 0)), ("mirror", "unite", 2, texts(1, 3)))
        self.assertEqual(history.tool(1), block(3, (0, 0, 0), (1, 1, 3)))
        self.assertEqual(history.tool(2), block(3, (0, 0, 0), (3, 1, 3)))
        self.assertEqual(history.tool(3), block(3, (0, 2, 0), (3, 3, 3)))
        self.assertEqual(history.solid_after(2), block(3, (0, 1, 0), (3, 3, 1)))
        self.assertEqual(history.solid(), block(3, (0, 1, 0), (3, 3, 1)).united(block(3, (0, 2, 0), (3, 3, 3))))

    def test_a_failed_tool(self):
        history = history_of(3, block_feature((0, 0, 0), (1, 1, 1)), block_feature((1, 1, 1), (2, 2, 2), "less"))
        self.check(history, 1, "good", ())
        history = history_of(3, block_feature((0, 0, 0), (1, 1, 1)), block_feature((0, 0, 0), (1, 1, 1), "less"))
        self.check(history, 1, "failed", ("empty",))
        self.assertIsNone(history.tool(1))

    def test_the_whole_room(self):
        history = history_of(2, block_feature((0, 0, 0), (2, 2, 2)), ("grow", "", None, ("2",)))
        self.assertEqual(history.solid(), whole(2))
        self.assertEqual(history.state(1), "good")


class Changes(Told):
    """Features without a tool."""

    def test_shift(self):
        for step in ((1, 0, 0), (0, -1, 0), (0, 1, 2), (0, 0, 0), (-2, 1, 1)):
            self.check_change("shift", texts(*step), first_part(3).moved(*step))
        self.check_change("shift", texts(0, 0, 3), ("empty",))
        self.check_change("shift", texts(200, 0, 0), ("empty",))

    def test_way(self):
        for way in (0, 1, 9, 22, 40, 47):
            self.check_change("way", texts(way), first_part(3).turned(way))
        for way in (-1, 48, 200):
            self.check_change("way", texts(way), ("field", 0))

    def test_grow_shrink_and_shell(self):
        part = first_part(3)
        for t in (1, 2, 3):
            self.check_change("grow", texts(t), part.grown(t))
        for kind in ("grow", "shrink", "shell"):
            for t in (0, -1, 4, 200):
                self.check_change(kind, texts(t), ("field", 0))
        self.check_change("shrink", texts(1), ("empty",))
        self.check_change("shell", texts(1), part)
        for t, inner in ((1, block(6, (1, 1, 1), (5, 5, 5))), (2, block(6, (2, 2, 2), (4, 4, 4)))):
            history = history_of(6, block_feature((0, 0, 0), (6, 6, 6)), ("shrink", "", None, texts(t)))
            self.check(history, 1, "good", (), inner)
            history = history_of(6, block_feature((0, 0, 0), (6, 6, 6)), ("shell", "", None, texts(t)))
            self.check(history, 1, "good", (), whole(6).less(inner))
        history = history_of(6, block_feature((0, 0, 0), (6, 6, 6)), ("grow", "", None, ("6",)), ("grow", "", None, ("7",)))
        self.check(history, 1, "good", ())
        self.check(history, 2, "failed", ("field", 0))

    def test_split(self):
        part = first_part(3)
        for normal in itertools.product((-1, 0, 1), repeat=3):
            for d in (-2, 0, 1, 2):
                wanted = part.common(picked(3, lambda *point: sum(a * b for a, b in zip(normal, point)) <= d))
                if normal == (0, 0, 0):
                    self.check_change("split", texts(*normal, d), ("field", 2))
                elif wanted.many() == 0:
                    self.check_change("split", texts(*normal, d), ("empty",))
                else:
                    self.check_change("split", texts(*normal, d), wanted)
        for k in range(3):
            for wrong in (-2, 2, 200):
                fields = [1, 1, 1, 0]
                fields[k] = wrong
                self.check_change("split", texts(*fields), ("field", k))
        self.check_change("split", texts(2, 2, 2, 0), ("field", 0))
        self.check_change("split", texts(0, 2, 0, 0), ("field", 1))

    def test_twin(self):
        part = first_part(3)
        for axis, p in ((0, 3), (1, 4), (2, 3), (2, 0), (0, -5)):
            self.check_change("twin", texts(axis, p), part.united(mirror_of(part, axis, p)))
        for axis in (-1, 3):
            self.check_change("twin", texts(axis, 3), ("field", 0))

    def test_lump(self):
        self.check_change("lump", (), first_part(3))
        small, large = block(4, (0, 0, 0), (1, 1, 1)), block(4, (2, 2, 2), (4, 4, 3))
        features = [block_feature((0, 0, 0), (1, 1, 1)), block_feature((2, 2, 2), (4, 4, 3)), ("lump", "", None, ())]
        self.check(history_of(4, *features), 2, "good", (), large)
        equal = [features[0], block_feature((2, 2, 2), (3, 3, 3)), features[2]]
        self.check(history_of(4, *equal), 2, "good", (), small)
        self.check(history_of(4, equal[1], equal[0], features[2]), 2, "good", (), small)

    def test_fill(self):
        self.check_change("fill", (), first_part(3))
        inner = (block_feature((1, 1, 1), (2, 2, 2), "less"), block_feature((3, 3, 3), (4, 4, 4), "less"))
        history = history_of(5, block_feature((0, 0, 0), (5, 5, 5)), *inner, block_feature((0, 3, 1), (2, 4, 2), "less"),
                             ("fill", "", None, ()))
        self.check(history, 4, "good", (), whole(5).less(block(5, (0, 3, 1), (2, 4, 2))))

    def test_clean(self):
        # What the cuts leave of a cube has grains with few neighbours; the block beside it has some with four.
        cuts = ((1, 1, 0, 1), (1, -1, 0, 0), (0, -1, 1, 0), (-1, 0, 1, 0))
        one = [block_feature((0, 0, 0), (1, 1, 1))] + [("split", "", None, texts(*cut)) for cut in cuts]
        seen = {}
        for features in ([FIRST, SECOND], one[:2], one[:3], one[:4], one):
            for k in (1, 2, 3, 4):
                history = history_of(3, *features, ("clean", "", None, texts(k)))
                last = len(features)
                before = history.solid_after(last - 1)
                many = {grain: sum(before.has(neighbour_at(3, grain, facet)) for facet in range(4)) for grain in before.grains()}
                left = [grain for grain in many if many[grain] >= k]
                if left:
                    self.check(history, last, "good", (), Solid(3, left))
                else:
                    self.check(history, last, "failed", ("empty",), before)
                seen.update({number: True for number in many.values()})
        self.assertEqual(sorted(seen), [0, 1, 2, 3, 4])
        for k in (0, 5, -1):
            self.check_change("clean", texts(k), ("field", 0))

    def test_kinds_without_grains_before_them(self):
        fields = {"shift": (0, 0, 0), "way": (0,), "grow": (1,), "shrink": (1,), "shell": (1,), "split": (1, 0, 0, 5),
                  "twin": (0, 0), "lump": (), "fill": (), "clean": (1,)}
        for kind, numbers in fields.items():
            self.check(history_of(2, (kind, "", None, texts(*numbers))), 0, "failed", ("empty",), empty(2))


class Pulls(Told):
    """The kind pull."""

    def columns(self, size, direction, offset, facets, h):
        """The grains that a pull reaches, by the projections of middles into the triangles of facets."""
        axis = [k for k in range(3) if direction[k]][0]
        first, second = [k for k in range(3) if k != axis]
        found = []
        triangles = [[(c[first], c[second]) for c in facet_corners(size, *facet)] for facet in facets]
        for grain in range(grain_count(size)):
            point = [coordinate / 8 for coordinate in middle_of(size, grain)]
            above = sum(a * b for a, b in zip(direction, point)) - offset
            if (0 < above <= h or h <= above < 0) and any(
                    self.is_inside(triangle, 2 * point[first], 2 * point[second]) for triangle in triangles):
                found.append(grain)
        return Solid(size, found)

    def is_inside(self, triangle, u, v):
        signs = []
        for k in range(3):
            (a, b), (c, d) = triangle[k], triangle[(k + 1) % 3]
            signs.append((c - a) * (v - b) - (d - b) * (u - a) > 0)
        return len(set(signs)) == 1

    def test_all_faces_and_heights(self):
        part = first_part(3)
        history = history_of(3, FIRST, SECOND)
        names, faces = history.names(), faces_of(part)
        seen = set()
        for name, face in zip(names, faces):
            for h in (-4, -3, -2, -1, 0, 1, 2, 3, 4):
                pull = ("pull", "", None, (name, str(h)))
                if sum(one != 0 for one in face[0]) != 1:
                    wanted = ("name", 0)
                elif h == 0 or abs(h) == 4:
                    wanted = ("field", 1)
                else:
                    reached = self.columns(3, *face, h)
                    change = reached.less(part) if h > 0 else reached.common(part)
                    result = part.united(reached) if h > 0 else part.less(reached)
                    wanted = ("nothing",) if change.many() == 0 else ("empty",) if result.many() == 0 else result
                self.check_change(*pull[:1], pull[3], wanted)
                seen.add(wanted if isinstance(wanted, tuple) else h)
        self.assertEqual(seen, {("name", 0), ("field", 1), ("nothing",), ("empty",), -3, -2, -1, 1, 2, 3})

    def test_by_hand(self):
        base = block_feature((1, 1, 1), (2, 2, 2))
        faces = {(1, 0, 0): 22, (-1, 0, 0): 4, (0, 1, 0): 16, (0, -1, 0): 10, (0, 0, 1): 14, (0, 0, -1): 12}
        for direction, code in faces.items():
            low = tuple(min(1, 1 + one) for one in direction)
            high = tuple(max(2, 2 + one) for one in direction)
            history = history_of(4, base, ("pull", "", None, ((0, code, 0), "1")))
            self.check(history, 1, "good", (), block(4, low, high))
            history = history_of(4, base, ("pull", "", None, ((0, code, 0), "-1")))
            self.check(history, 1, "failed", ("empty",))
            history = history_of(4, base, ("pull", "", None, ((0, code, 0), "4")))
            high = tuple(4 if one > 0 else two for one, two in zip(direction, high))
            self.check(history, 1, "good", (), block(4, low, high))

    def test_grains_are_not_taken_twice_and_gaps_are_jumped(self):
        features = (block_feature((0, 0, 0), (1, 1, 1)), block_feature((0, 0, 2), (1, 1, 3)), block_feature((0, 0, 4), (1, 1, 5)))
        history = history_of(6, *features, ("pull", "", None, ((0, 14, 0), "3")))
        self.check(history, 3, "good", (), block(6, (0, 0, 0), (1, 1, 5)))
        history = history_of(6, *features, ("pull", "", None, ((2, 14, 0), "-3")))
        self.check(history, 3, "good", (), block(6, (0, 0, 0), (1, 1, 1)))
        history = history_of(6, *features, ("pull", "", None, ((2, 14, 0), "-4")))
        self.check(history, 3, "good", (), block(6, (0, 0, 0), (1, 1, 1)))
        history = history_of(6, *features, ("pull", "", None, ((2, 14, 0), "-6")))
        self.check(history, 3, "failed", ("empty",))

    def test_a_face_on_the_border_of_the_room(self):
        history = history_of(2, block_feature((0, 0, 0), (2, 2, 1)), ("pull", "", None, ((0, 12, 0), "1")),
                             ("pull", "", None, ((0, 14, 0), "1")), ("pull", "", None, ((2, 14, 0), "1")))
        self.check(history, 1, "failed", ("nothing",))
        self.check(history, 2, "good", (), whole(2))
        self.check(history, 3, "failed", ("nothing",))
        self.assertEqual([history.tool(number) for number in (1, 2, 3)], [None] * 3)

    def test_names_that_are_no_names_of_faces(self):
        for name in ((1, 22, 0), (0, 22, 1), (0, 13, 0), (0, 30, 0), (7, 7, 7)):
            history = history_of(2, block_feature((0, 0, 0), (1, 1, 1)), ("pull", "", None, (name, "1 / 0")))
            self.check(history, 1, "failed", ("name", 0))
        history = history_of(2, block_feature((0, 0, 0), (1, 1, 1)), ("pull", "", None, ((0, 22, 0), "1 / 0")))
        self.check(history, 1, "failed", ("field", 1))
        self.check(history_of(2, ("pull", "", None, ((0, 22, 0), "1"))), 0, "failed", ("name", 0))


class Point93(Told):
    """States and reasons, the first of them that is so."""

    def test_suppressed(self):
        history = history_of(2, block_feature((0, 0, 0), (1, 1, 1)), ("row", "unite", 0, ("x", "1", "0", "0")),
                             ("mirror", "unite", 1, ("0", "2")))
        self.check(history, 1, "failed", ("field", 0))
        self.check(history, 2, "behind", ())
        history.suppress(1, True)
        self.assertEqual(history.rebuild(), [])
        self.check(history, 1, "suppressed", (), block(2, (0, 0, 0), (1, 1, 1)))
        self.check(history, 2, "behind", (), block(2, (0, 0, 0), (1, 1, 1)))
        history.suppress(2, True)
        history.suppress(0, True)
        self.assertEqual(history.rebuild(), [])
        for number in (0, 1, 2):
            self.check(history, number, "suppressed", (), empty(2))
            self.assertIsNone(history.tool(number))
        self.assertEqual((history.solid(), history.makers(), history.names()), (empty(2), {}, []))

    def test_behind(self):
        history = history_of(2, block_feature((0, 0, 0), (1, 1, 1)), ("row", "unite", 0, ("1 / 2", "x", "0", "0")))
        history.suppress(0, True)
        history.rebuild()
        self.check(history, 1, "behind", ())
        history.suppress(0, False)
        self.assertEqual(history.rebuild(), [])
        self.check(history, 1, "failed", ("field", 0))
        history.set_field(0, 0, "5")
        history.rebuild()
        self.check(history, 0, "failed", ("nothing",))
        self.check(history, 1, "behind", ())

    def test_fields_that_give_no_whole_number_come_before_bounds(self):
        history = history_of(2, ("hole", "unite", 0, ("1", "1", "0", "1", "65")), ("hole", "unite", 0, ("1", "1", "0", "x", "65")),
                             ("hole", "unite", 0, ("1 / 2", "1", "0", "x", "65")),
                             ("hole", "unite", 0, ("1 / 0", "1 mm * 1 mm", "0", "0", "65")),
                             ("hole", "unite", 0, ("0", "0", "0", "201", "65")))
        wanted = [("field", 4), ("field", 3), ("field", 0), ("field", 0), ("field", 3)]
        self.assertEqual([history.reason(number) for number in range(5)], wanted)
        self.assertEqual({history.state(number) for number in range(5)}, {"failed"})

    def test_bounds_of_bodies_and_repetitions(self):
        base = block_feature((0, 0, 0), (1, 1, 1))
        for kind, of, fields, field in (
                ("wedge", None, (0, 0, 0, 1, 1, 1, 12), 6), ("step", 0, (1, 1, 0, 1, 0, 1, 0), 4),
                ("step", 0, (1, 1, 0, 1, 1, 1, 0), 6), ("sink", 0, (1, 1, 0, 1, 0), 4), ("row", 0, (1, 1, 0, 0), 0),
                ("row", 0, (65, 1, 0, 0), 0), ("ring", 0, (3, 1, 0, 9), 0), ("ring", 0, (2, 1, 0, 9), 2),
                ("ring", 0, (2, 1, 1, 5), 3), ("mirror", 0, (3, 9), 0), ("mirror", 0, (-1, 9), 0)):
            history = history_of(2, base, (kind, "unite", of, texts(*fields)))
            self.check(history, 1, "failed", ("field", field), block(2, (0, 0, 0), (1, 1, 1)))
            self.assertIsNone(history.tool(1))

    def test_profiles(self):
        drawings = {
            1: sketch_of([(0, 0)], constraints=[(0, 0, 0, 0, "x")]),
            2: sketch_of([(4, 0), (0, 0)], [(0, 1)]),
            3: sketch_of([(2, 1), (0, 0)], [(0, 1)]),
            4: sketch_of([(0, 0)], discs=[(0, "4")]),
            5: sketch_of([(1, 1), (0, 0)], [(0, 1)]),
            6: sketch_of([(1, 1), (0, 0)], [(0, 1), (0, 1)]),
            7: ring_of_lines((0, 0), (1, 1), (0, 1)),
        }
        for number, drawing in drawings.items():
            history = History(3)
            copy_sketch(drawing, history.sketch(history.add_sketch(2, 0)))
            for kind, fields in (("prism", (0, 1)), ("taper", (0, 1)), ("turn", (0,)), ("wall", (1, 0, 1)), ("wall", (0, 0, 1))):
                history.add_feature(kind, "unite", 0, texts(*fields))
            history.rebuild()
            wanted = [("profile", number)] * 3 + [("profile", number), ("field", 0)]
            if number > 3:
                wanted[3] = ("nothing",) if number == 4 else ()
            if number == 7:
                wanted[0] = ()
            self.assertEqual([history.reason(k) for k in range(5)], wanted)

    def test_nothing_comes_before_empty(self):
        history = history_of(2, block_feature((1, 1, 1), (1, 2, 2)), block_feature((2, 0, 0), (3, 1, 1), "common"),
                             block_feature((0, 0, 0), (1, 1, 1), "less"), block_feature((0, 0, 0), (1, 1, 1)),
                             block_feature((1, 1, 1), (2, 2, 2), "common"), ("mirror", "unite", 3, texts(0, 0)),
                             ("row", "less", 3, texts(2, 5, 5, 5)))
        self.assertEqual([history.reason(number) for number in range(7)], [
            ("nothing",), ("nothing",), ("empty",), (), ("empty",), ("nothing",), ("empty",)])
        self.assertEqual([history.tool(number) for number in range(7) if number != 3], [None] * 6)
        self.assertEqual(history.solid(), block(2, (0, 0, 0), (1, 1, 1)))

    def test_the_solid_stays_behind_a_feature_that_is_not_good(self):
        history = history_of(2, block_feature((0, 0, 0), (1, 1, 1)), block_feature((0, 0, 0), (2, 2, 2), "less"),
                             ("shift", "", None, texts(1, 0, 0)))
        self.check(history, 1, "failed", ("empty",), block(2, (0, 0, 0), (1, 1, 1)))
        self.check(history, 2, "good", (), block(2, (1, 0, 0), (2, 1, 1)))
        self.assertEqual(history.solid_after(0), block(2, (0, 0, 0), (1, 1, 1)))


if __name__ == "__main__":
    unittest.main()
