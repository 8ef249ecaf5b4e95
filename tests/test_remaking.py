"""Points 2 and 94 to 96: what is worked out again, makers of facets and names of faces."""

import random
import unittest

from helping import block, picked, rectangle, refusal
from partloft.bodies import body_of
from partloft.errors import FieldFault, LoftError, ProfileFault
from partloft.faces import boundary_of, faces_of
from partloft.formulas import read_formula
from partloft.grains import grain_count, middle_of, neighbour_at
from partloft.histories import History
from partloft.repeating import mirror_of, ring_of, row_of
from partloft.solids import Solid, empty, whole
from partloft.solving import solve
from partloft.values import whole_number
from test_features import FORMS


def texts(*numbers):
    return tuple(str(number) for number in numbers)


def quarter(u, v):
    """In which quarter of which unit square a point in eighths lies, as on which side of both diagonals."""
    return (u // 8, v // 8, u % 8 > v % 8, u % 8 + v % 8 > 8)


def blocks(size, *rows):
    """A history of blocks (op, numbers)."""
    history = History(size)
    for op, numbers in rows:
        history.add_feature("block", op, None, texts(*numbers))
    return history


class Point94(unittest.TestCase):
    """Which features a rebuild works out."""

    def test_nothing_without_an_edit(self):
        history = blocks(2, ("unite", (0, 0, 0, 2, 2, 1)), ("less", (0, 0, 0, 1, 1, 1)), ("less", (5, 5, 5, 5, 5, 5)))
        history.add_feature("grow", "", None, ("x",))
        self.assertEqual(history.rebuild(), [0, 1, 2, 3])
        before = (history.solid(), history.makers(), [history.reason(k) for k in range(4)])
        self.assertEqual(history.rebuild(), [])
        self.assertEqual((history.solid(), history.makers(), [history.reason(k) for k in range(4)]), before)

    def test_formulas_that_give_the_same(self):
        history = blocks(2, ("unite", (0, 0, 0, 2, 2, 1)), ("less", (0, 0, 0, 1, 1, 1)))
        history.rebuild()
        history.set_field(0, 3, "4 / 2")
        history.set_field(1, 0, "0 * 7 mm")
        self.assertEqual(history.rebuild(), [])
        history.value_table().define("width", "1")
        history.set_field(1, 3, "width")
        self.assertEqual(history.rebuild(), [])
        history.value_table().define("width", "2")
        self.assertEqual(history.rebuild(), [1])
        self.assertEqual(history.solid(), block(2, (0, 1, 0), (2, 2, 1)))
        history.value_table().define("width", "1 / 2")
        self.assertEqual(history.rebuild(), [1])
        self.assertEqual(history.reason(1), ("field", 3))
        history.value_table().define("width", "no_value")
        self.assertEqual(history.rebuild(), [])
        history.value_table().define("width", "1", history.value_table().add_configuration(0))
        self.assertEqual(history.rebuild(), [])
        history.value_table().choose(1)
        self.assertEqual(history.rebuild(), [1])

    def test_what_stands_behind_a_change(self):
        history = blocks(3, ("unite", (0, 0, 0, 1, 1, 1)), ("unite", (1, 0, 0, 2, 1, 1)), ("unite", (0, 0, 0, 3, 3, 1)),
                         ("unite", (0, 0, 0, 1, 1, 3)))
        self.assertEqual(history.rebuild(), [0, 1, 2, 3])
        history.set_field(2, 5, "2")
        self.assertEqual(history.rebuild(), [2, 3])
        history.set_field(3, 5, "2")
        self.assertEqual(history.rebuild(), [3])
        history.suppress(0, True)
        self.assertEqual(history.rebuild(), [1, 2, 3])

    def test_other_makers_are_other_inputs(self):
        history = blocks(2, ("unite", (0, 0, 0, 1, 1, 1)), ("unite", (0, 0, 0, 2, 1, 1)), ("unite", (0, 0, 0, 2, 2, 1)),
                         ("unite", (0, 0, 0, 2, 2, 2)))
        history.rebuild()
        names = history.names()
        history.suppress(0, True)
        # The solid behind the feature 1 is the same, but 1 has made it alone.
        self.assertEqual(history.rebuild(), [1, 2, 3])
        self.assertEqual(history.solid_after(1), block(2, (0, 0, 0), (2, 1, 1)))
        self.assertNotEqual(history.names(), names)
        history.suppress(0, False)
        self.assertEqual(history.rebuild(), [1, 2, 3])
        self.assertEqual(history.names(), names)

    def test_where_the_change_ends(self):
        history = blocks(2, ("unite", (0, 0, 0, 2, 2, 2)), ("unite", (0, 0, 0, 1, 1, 1)), ("less", (0, 0, 0, 1, 2, 1)))
        self.assertEqual(history.rebuild(), [0, 1, 2])
        history.set_field(1, 3, "2")
        self.assertEqual(history.rebuild(), [1])
        history.suppress(1, True)
        self.assertEqual(history.rebuild(), [])
        history.drop(1)
        self.assertEqual(history.rebuild(), [])
        history.put(2, 0)
        # Before the feature 0 there is an empty solid as before.
        self.assertEqual(history.rebuild(), [2])
        self.assertEqual((history.reason(2), history.solid()), (("empty",), whole(2)))

    def test_the_tool_of_another_feature(self):
        history = blocks(2, ("unite", (0, 0, 0, 2, 2, 2)), ("unite", (0, 0, 0, 1, 1, 1)))
        history.add_feature("row", "less", 1, texts(2, 0, 0, 1))
        self.assertEqual(history.rebuild(), [0, 1, 2])
        history.set_field(1, 0, "1")
        history.set_field(1, 3, "2")
        # What the row begins with and its fields are the same, its tool is not.
        self.assertEqual(history.rebuild(), [1, 2])
        self.assertEqual(history.solid(), whole(2).less(block(2, (1, 0, 0), (2, 1, 2))))
        history.set_field(1, 0, "3 / 3")
        self.assertEqual(history.rebuild(), [])

    def test_the_last_time_counts(self):
        history = blocks(2, ("unite", (0, 0, 0, 1, 1, 1)))
        for k in (1, 2, 1, 2):
            history.set_field(0, 3, str(k))
            self.assertEqual(history.rebuild(), [0])
            self.assertEqual(history.solid().many(), 24 * k)
        history.set_field(0, 3, "1")
        history.set_field(0, 3, "2")
        self.assertEqual(history.rebuild(), [])

    def test_suppressed_features_are_remembered(self):
        history = blocks(2, ("unite", (0, 0, 0, 1, 1, 1)), ("unite", (0, 0, 0, 1, 1, 2)))
        history.add_feature("mirror", "unite", 1, texts(0, 2))
        self.assertEqual(history.rebuild(), [0, 1, 2])
        history.suppress(1, True)
        self.assertEqual(history.rebuild(), [])
        self.assertEqual([history.state(k) for k in range(3)], ["good", "suppressed", "behind"])
        history.rebuild()
        history.suppress(1, False)
        self.assertEqual(history.rebuild(), [])
        self.assertEqual([history.state(k) for k in range(3)], ["good"] * 3)
        history.suppress(1, True)
        history.set_field(1, 5, "1")
        self.assertEqual(history.rebuild(), [])
        history.suppress(1, False)
        self.assertEqual(history.rebuild(), [1, 2])

    def test_a_new_feature_was_not_worked_out_before(self):
        history = blocks(2, ("unite", (0, 0, 0, 1, 1, 1)))
        history.rebuild()
        history.drop(0)
        history.add_feature("block", "unite", None, texts(0, 0, 0, 1, 1, 1))
        self.assertEqual(history.rebuild(), [1])

    def test_the_name_of_a_pull(self):
        history = blocks(3, ("unite", (0, 0, 0, 1, 1, 1)))
        history.add_feature("pull", "", None, ((0, 22, 0), "1"))
        self.assertEqual(history.rebuild(), [0, 1])
        history.set_field(1, 0, (0, 22, 0))
        self.assertEqual(history.rebuild(), [])
        history.set_field(1, 0, (0, 16, 0))
        self.assertEqual(history.rebuild(), [1])
        history.set_field(1, 0, (9, 9, 9))
        self.assertEqual(history.rebuild(), [1])
        history.set_field(1, 0, (9, 9, 8))
        self.assertEqual(history.rebuild(), [1])


class SketchInputs(unittest.TestCase):
    """What counts of a sketch."""

    def drawn(self):
        history = History(3)
        history.value_table().define("r", "1")
        sketch = history.sketch(history.add_sketch(2, 0))
        for place in rectangle(0, 0, 3, 2):
            sketch.add_point(*place)
        for k in range(4):
            sketch.add_line(k, (k + 1) % 4)
        sketch.add_constraint(2, 0, 1, 0, "3")
        sketch.add_disc(0, "r")
        sketch.add_disc(1, "1")
        history.add_feature("block", "unite", None, texts(0, 0, 0, 1, 1, 1))
        history.add_feature("prism", "unite", 0, ("0", "1"))
        self.assertEqual(history.rebuild(), [0, 1])
        return history, sketch

    def check_edit(self, edit, wanted):
        history, sketch = self.drawn()
        edit(history, sketch)
        self.assertEqual(history.rebuild(), wanted)
        self.assertEqual(history.rebuild(), [])
        fresh = History(3)
        fresh.value_table().define("r", history.value_table().formula("r", 0))
        fresh.take_over(history.parts())
        fresh.rebuild()
        self.assertEqual(fresh.solid(), history.solid())
        self.assertEqual([fresh.reason(k) for k in range(2)], [history.reason(k) for k in range(2)])

    def test_places(self):
        # The drawn place of a point that follows from others does not count.
        self.check_edit(lambda history, sketch: sketch.move_point(1, 99, 0), [])
        self.check_edit(lambda history, sketch: sketch.move_point(2, 3, 3), [1])
        self.check_edit(lambda history, sketch: sketch.move_point(0, -1, 0), [1])
        # A further point is a further place.
        self.check_edit(lambda history, sketch: sketch.add_point(9, 9), [1])

    def test_constraints_count_by_places_and_state_only(self):
        self.check_edit(lambda history, sketch: sketch.add_constraint(6, 0, 0, 0, ""), [])
        self.check_edit(lambda history, sketch: sketch.add_constraint(0, 2, 0, 0, "3"), [])
        self.check_edit(lambda history, sketch: sketch.drop_constraint(0), [])
        self.check_edit(lambda history, sketch: sketch.add_constraint(0, 2, 0, 0, "2"), [1])
        self.check_edit(lambda history, sketch: sketch.add_constraint(0, 0, 0, 0, "x"), [1])
        self.check_edit(lambda history, sketch: sketch.add_constraint(2, 0, 0, 0, "1"), [1])

    def test_the_state_counts(self):
        def fix_all(history, sketch):
            for point, (u, v) in enumerate(rectangle(0, 0, 3, 2)):
                sketch.add_constraint(0, point, 0, 0, str(u))
                sketch.add_constraint(1, point, 0, 0, str(v))
        self.check_edit(fix_all, [1])
        history, sketch = self.drawn()
        number = sketch.add_constraint(0, 0, 0, 0, "x")
        self.assertEqual(history.rebuild(), [1])
        sketch.move_point(2, 3, 3)
        sketch.drop_constraint(0)
        self.assertEqual(history.rebuild(), [])
        sketch.drop_constraint(number)
        sketch.add_constraint(2, 0, 0, 0, "1")
        self.assertEqual(history.rebuild(), [1])

    def test_lines(self):
        def renumber_last(history, sketch):
            sketch.drop_line(3)
            sketch.add_line(3, 0)
        self.check_edit(renumber_last, [])

        def renumber_first(history, sketch):
            sketch.drop_line(0)
            sketch.add_line(0, 1)
        self.check_edit(renumber_first, [1])

        def turn_last(history, sketch):
            sketch.drop_line(3)
            sketch.add_line(0, 3)
        self.check_edit(turn_last, [1])

        def drop_one(history, sketch):
            sketch.drop_line(3)
        self.check_edit(drop_one, [1])

    def test_discs(self):
        self.check_edit(lambda history, sketch: history.value_table().define("r", "1 mm * 1 mm"), [1])
        self.check_edit(lambda history, sketch: history.value_table().define("r", "3 - 2 * 1"), [])
        self.check_edit(lambda history, sketch: history.value_table().define("r", "1 mm"), [])
        self.check_edit(lambda history, sketch: history.value_table().define("r", "2"), [1])
        self.check_edit(lambda history, sketch: history.value_table().define("r", "x"), [1])

        def renumber_last(history, sketch):
            sketch.drop_disc(1)
            sketch.add_disc(1, "3 / 3")
        self.check_edit(renumber_last, [])

        def renumber_first(history, sketch):
            sketch.drop_disc(0)
            sketch.add_disc(0, "r")
        self.check_edit(renumber_first, [1])

        def move_last(history, sketch):
            sketch.drop_disc(1)
            sketch.add_disc(2, "1")
        self.check_edit(move_last, [1])

    def test_the_profile_alone_decides_what_is_behind(self):
        history, sketch = self.drawn()
        history.add_feature("block", "unite", None, texts(0, 0, 0, 1, 1, 3))
        self.assertEqual(history.rebuild(), [2])
        sketch.drop_line(3)
        self.assertEqual(history.rebuild(), [1, 2])
        self.assertEqual(history.reason(1), ("profile", 5))
        # Another open sketch: the feature 1 fails again, so that nothing changes behind it.
        sketch.drop_line(2)
        self.assertEqual(history.rebuild(), [1])


class Point95(unittest.TestCase):
    """Makers of boundary facets."""

    def test_by_hand(self):
        history = blocks(3, ("unite", (0, 0, 0, 1, 1, 1)), ("unite", (1, 0, 0, 2, 1, 1)), ("less", (1, 0, 0, 2, 1, 1)))
        self.assertEqual(history.makers(), {})
        history.rebuild()
        cube, bar = block(3, (0, 0, 0), (1, 1, 1)), block(3, (0, 0, 0), (2, 1, 1))
        first, second = boundary_of(cube), boundary_of(bar)
        # The side between the cubes was not on the boundary behind the feature 1, so 2 has made it anew.
        wanted = {facet: 0 if facet in second else 2 for facet in first}
        self.assertEqual(history.makers(), wanted)
        self.assertEqual(sorted(wanted.values()).count(2), 4)
        history.suppress(2, True)
        history.rebuild()
        self.assertEqual(history.makers(), {facet: 0 if facet in first else 1 for facet in second})

    def test_features_that_are_not_good_make_nothing(self):
        history = blocks(3, ("unite", (0, 0, 0, 1, 1, 1)), ("less", (0, 0, 0, 3, 3, 3)), ("unite", (1, 0, 0, 2, 1, 1)))
        history.rebuild()
        self.assertEqual(set(history.makers().values()), {0, 2})
        history.suppress(2, True)
        history.rebuild()
        self.assertEqual(set(history.makers().values()), {0})

    def test_facets_are_told_by_grain_and_facet(self):
        # A shift brings other grains to the boundary; where it brings the same ones, they keep their makers.
        history = blocks(3, ("unite", (0, 0, 0, 2, 1, 1)))
        history.add_feature("shift", "", None, texts(1, 0, 0))
        history.rebuild()
        first, second = boundary_of(block(3, (0, 0, 0), (2, 1, 1))), boundary_of(block(3, (1, 0, 0), (3, 1, 1)))
        self.assertEqual(history.makers(), {facet: 0 if facet in first else 1 for facet in second})
        self.assertEqual(set(history.makers().values()), {0, 1})

    def test_all_boundary_facets_have_makers(self):
        history = blocks(3, ("unite", (0, 0, 0, 3, 3, 1)), ("less", (1, 1, 0, 2, 2, 1)))
        history.rebuild()
        self.assertEqual(sorted(history.makers()), boundary_of(history.solid()))


class Point96(unittest.TestCase):
    """Names of faces."""

    def test_by_hand(self):
        history = blocks(3, ("unite", (0, 0, 0, 1, 1, 1)))
        history.rebuild()
        self.assertEqual(history.names(), [(0, code, 0) for code in (12, 10, 4, 22, 16, 14)])
        self.assertEqual([history.face_named(name) for name in history.names()], list(range(6)))
        for name in ((1, 12, 0), (0, 12, 1), (0, 13, 0), (0, 0, 0), (99, 99, 99)):
            self.assertIsNone(history.face_named(name))

    def test_the_maker_of_the_first_facet(self):
        history = blocks(3, ("unite", (0, 0, 0, 1, 1, 1)), ("unite", (1, 0, 0, 2, 1, 1)))
        history.rebuild()
        # The upper faces of both cubes are one face now, whose first facet is of the feature 0.
        self.assertEqual(history.names(), [(0, 12, 0), (0, 10, 0), (0, 4, 0), (1, 22, 0), (0, 16, 0), (0, 14, 0)])
        other = blocks(3, ("unite", (1, 0, 0, 2, 1, 1)), ("unite", (0, 0, 0, 1, 1, 1)))
        other.rebuild()
        # Facets of one height are in order by y and then by x.
        self.assertEqual(other.names(), [(1, 12, 0), (1, 10, 0), (1, 4, 0), (0, 22, 0), (1, 16, 0), (1, 14, 0)])

    def test_numbers_of_faces_with_the_same_maker_and_code(self):
        history = blocks(3, ("unite", (0, 0, 0, 3, 3, 1)), ("less", (1, 0, 0, 2, 3, 1)), ("unite", (0, 0, 1, 1, 1, 2)))
        history.rebuild()
        names = history.names()
        self.assertEqual(names.count((0, 14, 0)), 1)
        self.assertIn((0, 14, 1), names)
        self.assertIn((2, 14, 0), names)
        self.assertIn((1, 22, 0), names)
        self.assertEqual(len(set(names)), len(names))
        faces = faces_of(history.solid())
        self.assertEqual(faces[history.face_named((1, 22, 0))][:2], ((1, 0, 0), 1))
        self.assertEqual(faces[history.face_named((1, 4, 0))][:2], ((-1, 0, 0), -2))
        self.assertEqual(faces[history.face_named((0, 22, 0))][:2], ((1, 0, 0), 3))
        # Two halves of the floor: one at x from 0 to 1, one at x from 2 to 3.
        self.assertEqual([faces[history.face_named((0, 12, k))][:2] for k in (0, 1)], [((0, 0, -1), 0)] * 2)
        self.assertIsNone(history.face_named((0, 12, 2)))

    def test_a_name_stays_as_long_as_there_is_such_a_face(self):
        history = blocks(3, ("unite", (0, 0, 0, 2, 2, 2)), ("unite", (2, 0, 0, 3, 1, 1)))
        history.rebuild()
        self.assertEqual(history.names()[history.face_named((0, 22, 0))], (0, 22, 0))
        history.set_field(1, 4, "2")
        history.rebuild()
        self.assertIsNotNone(history.face_named((0, 22, 0)))
        history.set_field(1, 5, "2")
        history.rebuild()
        self.assertIsNone(history.face_named((0, 22, 0)))
        self.assertIsNotNone(history.face_named((1, 22, 0)))

    def test_the_kind_of_values(self):
        history = blocks(2, ("unite", (0, 0, 0, 1, 1, 1)))
        history.rebuild()
        for name in history.names():
            self.assertIsInstance(name, tuple)
            self.assertEqual([type(one) for one in name], [int] * 3)


class Model:
    """A plain second history: it works all out at each rebuild, and tells by inputs alone what was new."""

    def __init__(self, size):
        self.size = size
        self.known = {}

    def rebuild(self, parts, values):
        """(worked out, state and reason of each, tools, solids, makers, names)."""
        sketches, features, order, _ = parts
        rows = {row[0]: row[1:] for row in features}
        states, tools, solids, worked = {}, {}, {}, []
        part, boundaries = empty(self.size), []
        for number in order:
            kind, op, of, fields, suppressed = rows[number]
            source = of if FORMS[kind][0] == "feature" else None
            tools[number] = None
            if suppressed:
                states[number] = ("suppressed", ())
            elif source is not None and states[source][0] != "good":
                states[number] = ("behind", ())
            else:
                gives = [item if isinstance(item, tuple) else whole_number(read_formula(item), values) for item in fields]
                sketch = sketches[of] if FORMS[kind][0] == "sketch" else None
                makers = makers_by_boundaries(boundaries)
                inputs = (part.grains(), makers, kind, op, of, gives, seen_of(sketch, values),
                          tools[source].grains() if source is not None else None)
                if self.known.get(number) != inputs:
                    worked.append(number)
                    self.known[number] = inputs
                reason, after, tool = self.made(part, makers, kind, op, of, gives, sketch, values, tools.get(source))
                states[number] = ("failed", reason) if reason else ("good", ())
                if not reason:
                    part, tools[number] = after, tool
                    boundaries.append((number, boundary_of(part)))
            solids[number] = part
        makers = makers_by_boundaries(boundaries)
        return worked, states, tools, solids, part, makers, names_by_makers(part, makers)

    def made(self, part, makers, kind, op, of, gives, sketch, values, source):
        """(reason or (), solid, tool) of a feature that is worked out."""
        names = names_by_makers(part, makers)
        faces = faces_of(part)
        for k, given in enumerate(gives):
            if given is None:
                return ("field", k), None, None
            if isinstance(given, tuple):
                if given not in names or sum(map(abs, faces[names.index(given)][0])) != 1:
                    return ("name", k), None, None
        try:
            tool = change = None
            if FORMS[kind][2]:
                tool = change = self.tool(kind, of, gives, sketch, values, source)
                after = {"unite": part.united, "less": part.less, "common": part.common}[op](tool)
            elif kind == "pull":
                change, after = self.pulled(part, faces[names.index(gives[0])], gives[1])
            else:
                after = self.changed(part, kind, gives)
        except FieldFault as fault:
            return ("field", fault.field), None, None
        except ProfileFault as fault:
            return ("profile", fault.profile), None, None
        if change is not None and change == empty(self.size):
            return ("nothing",), None, None
        if after == empty(self.size):
            return ("empty",), None, None
        return (), after, tool

    def tool(self, kind, of, gives, sketch, values, source):
        if source is not None:
            return {"row": row_of, "ring": ring_of, "mirror": mirror_of}[kind](source, *gives)
        return body_of(self.size, kind, gives, sketch, values, of if FORMS[kind][0] == "axis" else None)

    def changed(self, part, kind, gives):
        bounds = {"way": [(0, 47)], "grow": [(1, self.size)], "shrink": [(1, self.size)], "shell": [(1, self.size)],
                  "split": [(-1, 1)] * 3, "twin": [(0, 2)], "clean": [(1, 4)]}
        for k, (low, high) in enumerate(bounds.get(kind, [])):
            if not low <= gives[k] <= high:
                raise FieldFault(k)
        if kind == "split":
            if gives[:3] == [0, 0, 0]:
                raise FieldFault(2)
            normal = gives[:3]
            return part.common(picked(self.size, lambda *point: (
                sum(a * b for a, b in zip(normal, point)) <= gives[3])))
        if kind == "lump":
            lumps = part.lumps()
            most = max([lump.many() for lump in lumps], default=0)
            return next((lump for lump in lumps if lump.many() == most), part)
        if kind == "fill":
            return Solid(self.size, part.grains() + [grain for hollow in part.hollows() for grain in hollow.grains()])
        if kind == "clean":
            return Solid(self.size, [grain for grain in part.grains() if sum(
                part.has(neighbour_at(self.size, grain, facet)) for facet in range(4)) >= gives[0]])
        return {"shift": part.moved, "way": part.turned, "grow": part.grown, "shrink": part.shrunk,
                "shell": lambda t: part.less(part.shrunk(t)),
                "twin": lambda axis, p: part.united(mirror_of(part, axis, p))}[kind](*gives)

    def pulled(self, part, face, h):
        """(what is added or taken away, the solid behind)."""
        if h == 0 or abs(h) > self.size:
            raise FieldFault(1)
        direction, offset, facets = face
        axis = [k for k in range(3) if direction[k]][0]
        others = [k for k in range(3) if k != axis]
        wanted = {quarter(*[middle_of(self.size, grain)[k] for k in others]) for grain, _ in facets}
        found = []
        for grain in range(grain_count(self.size)):
            middle = middle_of(self.size, grain)
            away = direction[axis] * middle[axis] / 8 - offset
            if quarter(*[middle[k] for k in others]) in wanted and (0 < away <= h or h <= away < 0):
                found.append(grain)
        reached = Solid(self.size, found)
        if h > 0:
            return reached.less(part), part.united(reached)
        return reached.common(part), part.less(reached)


def makers_by_boundaries(boundaries):
    """Point 95 in its own words, from the boundaries behind all good features."""
    found = {}
    for facet in boundaries[-1][1] if boundaries else []:
        at = len(boundaries)
        while at > 0 and facet in boundaries[at - 1][1]:
            at -= 1
        found[facet] = boundaries[at][0]
    return found


def names_by_makers(part, makers):
    """Point 96 in its own words."""
    keys = []
    for direction, _, facets in faces_of(part):
        a, b, c = direction
        keys.append((makers[facets[0]], 9 * (a + 1) + 3 * (b + 1) + c + 1))
    return [(*key, keys[:at].count(key)) for at, key in enumerate(keys)]


def seen_of(sketch, values):
    """What counts of a sketch, by point 94."""
    if sketch is None:
        return None
    solution = solve(sketch, values)
    discs = [(point, whole_number(read_formula(text), values)) for _, (point, text) in sorted(sketch.discs().items())]
    return (sketch.axis(), sketch.offset(), solution.state, solution.places, [
        ends for _, ends in sorted(sketch.lines().items())], discs)


FORMULAS = ("0", "1", "2", "3", "a", "b", "a + 1", "b - a", "1 mm", "2 * a", "0", "1", "2", "0", "1", "2")
RARE = ("-1", "a / 2", "x", "4")


class ByChance(unittest.TestCase):
    """Point 2: after each rebuild all is as a new history with the same parts has it."""

    def new_fields(self, chance, history, kind):
        fields = [chance.choice(FORMULAS if chance.random() < 0.96 else RARE) for _ in range(FORMS[kind][1])]
        if kind in ("prism", "row"):
            fields[0] = "0" if kind == "prism" else "2"
        if kind in ("block", "wedge"):
            fields[:3] = [chance.choice(("0", "0", "0", "1", "a - 1")) for _ in range(3)]
            fields[3:6] = [chance.choice(("1", "2", "2", "3", "a", "b")) for _ in range(3)]
        if kind == "pull":
            names = [name for name in history.names() if name[1] in (4, 10, 12, 14, 16, 22) or chance.random() < 0.1]
            fields[0] = chance.choice(names) if names and chance.random() < 0.9 else (chance.randint(0, 9), 22, 0)
            fields[1] = chance.choice(("1", "-1", "a", "-a", "-1", "-1", "0", "b", "5"))
        return tuple(fields)

    def add(self, chance, history):
        kind = chance.choice(["block"] * 8 + ["pull"] * 9 + ["prism", "row", "ring"] * 3 + sorted(FORMS))
        of = {"none": None, "axis": chance.randint(0, 2), "sketch": chance.randint(0, 1),
              "feature": chance.choice(history.order() or [0])}[FORMS[kind][0]]
        op = chance.choice(("unite", "unite", "unite", "unite", "less", "less", "common")) if FORMS[kind][2] else ""
        history.add_feature(kind, op, of, self.new_fields(chance, history, kind))

    def edit(self, chance, history):
        """One edit by chance; a refused one is none."""
        order = history.order()
        feature = chance.choice(order or [0])
        sketch = history.sketch(chance.randint(0, 1))
        what = chance.randint(0, 11)
        if what <= 3 or len(order) < 4:
            self.add(chance, history)
        elif what <= 5:
            kind = history.feature(feature)[0]
            fields = self.new_fields(chance, history, kind)
            k = chance.randint(0, max(0, len(fields) - 1))
            history.set_field(feature, k, fields[k] if fields else "1")
        elif what == 6:
            history.suppress(feature, chance.random() < 0.5)
        elif what == 7:
            history.put(feature, chance.randint(0, len(order) - 1))
        elif what == 8:
            history.drop(feature)
        elif what == 9:
            history.value_table().define(chance.choice("ab"), chance.choice(("1", "2", "3", "1 / 2", "4 / 2")))
        elif what == 10:
            sketch.move_point(chance.randint(0, 3), chance.randint(0, 3), chance.randint(0, 3))
        else:
            history.value_table().choose(chance.randint(0, 1))

    def start(self, size):
        history = History(size)
        history.value_table().define("a", "1")
        history.value_table().define("b", "2")
        history.value_table().define("a", "2", history.value_table().add_configuration(0))
        for axis, row in ((2, rectangle(0, 0, 2, 1)), (0, ((0, 0), (1, 0), (2, 1), (0, 1)))):
            sketch = history.sketch(history.add_sketch(axis, 0))
            for place in row:
                sketch.add_point(*place)
            for k in range(4):
                sketch.add_line(k, (k + 1) % 4)
            sketch.add_constraint(6, 0, 1, 0, "")
        history.add_feature("block", "unite", None, ("0", "0", "0", "b", "1", "1"))
        history.add_feature("wedge", "unite", None, ("0", "0", "0", "a", "b", "2", "a"))
        return history

    def check(self, history, model):
        """Compares a rebuild with the model, and with a new history."""
        worked, states, tools, solids, part, makers, names = model.rebuild(history.parts(), history.value_table())
        self.assertEqual(history.rebuild(), worked)
        self.assertEqual({number: (history.state(number), history.reason(number)) for number in states}, states)
        self.assertEqual([history.tool(number) for number in tools], list(tools.values()))
        self.assertEqual([history.solid_after(number) for number in solids], list(solids.values()))
        self.assertEqual((history.solid(), history.makers(), history.names()), (part, makers, names))
        fresh = History(history.size)
        fresh.take_over(history.parts())
        for name in history.value_table().names():
            fresh.value_table().define(name, history.value_table().formula(name, history.value_table().chosen()))
        able = [number for number in states if states[number][0] not in ("suppressed", "behind")]
        self.assertEqual(fresh.rebuild(), able)
        self.assertEqual((fresh.solid(), fresh.makers(), fresh.names()), (part, makers, names))
        return states

    def test_edits_by_chance(self):
        seen = {}
        for seed in range(12):
            chance = random.Random(seed)
            history = self.start(2 + seed % 2)
            model = Model(history.size)
            for step in range(20):
                for _ in range(chance.randint(1, 3)):
                    try:
                        self.edit(chance, history)
                    except LoftError:
                        pass
                for number, (state, reason) in self.check(history, model).items():
                    kind = history.feature(number)[0]
                    seen[state] = seen.get(state, 0) + 1
                    seen[reason[:1]] = seen.get(reason[:1], 0) + 1
                    if state == "good":
                        seen[kind] = seen.get(kind, 0) + 1
        for wanted in ("good", "failed", "behind", "suppressed", ("field",), ("name",), ("profile",), ("nothing",),
                       ("empty",), "pull", "row"):
            self.assertGreater(seen.get(wanted, 0), 3, (wanted, seen))
        self.assertGreater(len([kind for kind in FORMS if kind in seen]), 14)

    def test_a_refused_call_is_no_edit(self):
        history = self.start(2)
        history.rebuild()
        before = (history.solid(), history.makers(), history.names())
        for work, arguments in ((history.put, (0, 7)), (history.drop, (9,)), (history.set_field, (0, 9, "1")),
                                (history.set_field, (0, 0, "+")), (history.suppress, (9, True))):
            self.assertIsNotNone(refusal(work, *arguments))
        self.assertEqual(history.rebuild(), [])
        self.assertEqual((history.solid(), history.makers(), history.names()), before)


if __name__ == "__main__":
    unittest.main()
