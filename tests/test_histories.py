"""Points 90, 91 and 94: the edits of a history, what they refuse, and what can be asked."""

import unittest

from helping import rectangle, refusal
from partloft.histories import History
from partloft.sketches import Sketch
from partloft.solids import empty
from partloft.values import Values
from test_features import FORMS

BLOCK = ("0", "0", "0", "1", "1", "1")


def full_parts(history):
    """All parts of a history, with sketches as what can be asked of them."""
    sketches, features, order, following = history.parts()
    seen = [(one.axis(), one.offset(), one.points(), one.lines(), one.discs(), one.constraints()) for one in sketches]
    return (seen, features, order, following)


def seen(history):
    """All that can be asked of a history."""
    behind = []
    for number in range(24):
        for ask in (history.state, history.reason, history.solid_after, history.tool):
            wrong = refusal(ask, number)
            behind.append(wrong or ask(number))
    return (full_parts(history), behind, history.solid(), history.makers(), history.names(), history.size,
            history.order(), history.sketch_count())


class Checked(unittest.TestCase):
    def check_refused(self, history, wanted, work, *arguments):
        """A refused call changes nothing (point 4)."""
        before = seen(history)
        self.assertEqual(refusal(work, *arguments), wanted)
        self.assertEqual(seen(history), before)


def with_all_sorts():
    """A history with a sketch, a tool 0, a change 1 without a tool, and a row 2 of the tool."""
    history = History(2)
    history.add_sketch(2, 0)
    history.add_feature("block", "unite", None, BLOCK)
    history.add_feature("shift", "", None, ("0", "0", "1"))
    history.add_feature("row", "unite", 0, ("2", "1", "0", "0"))
    return history


class Sizes(unittest.TestCase):
    def test_sizes(self):
        for size in (2, 3, 4, 5, 6):
            history = History(size)
            self.assertEqual(history.size, size)
            self.assertEqual(history.solid(), empty(size))
        for size in (1, 7, 0, -2):
            self.assertEqual(refusal(History, size), ("InvalidSize", size))

    def test_a_new_history(self):
        history = History(3)
        self.assertEqual(history.parts(), ([], [], [], 0))
        self.assertEqual((history.order(), history.makers(), history.names()), ([], {}, []))
        self.assertEqual(history.sketch_count(), 0)
        self.assertIsNone(history.face_named((0, 22, 0)))
        self.assertEqual(history.rebuild(), [])
        self.assertEqual(history.solid(), empty(3))


class ValuesAndSketches(Checked):
    def test_the_values_are_the_object_itself(self):
        history = History(2)
        self.assertIsInstance(history.value_table(), Values)
        history.value_table().define("a", "3")
        self.assertEqual(history.value_table().names(), ["a"])
        self.assertIs(history.value_table(), history.value_table())

    def test_sketches_are_the_objects_themselves(self):
        history = History(2)
        self.assertEqual([history.add_sketch(1, 4), history.add_sketch(0, 0)], [0, 1])
        sketch = history.sketch(0)
        self.assertIsInstance(sketch, Sketch)
        self.assertEqual((sketch.axis(), sketch.offset()), (1, 4))
        sketch.add_point(1, 2)
        self.assertEqual(history.sketch(0).points(), [(1, 2)])
        self.assertEqual(history.sketch(1).points(), [])
        self.assertEqual(history.sketch_count(), 2)
        for number in (2, -1, 100):
            self.check_refused(history, ("NoSuchSketch", number), history.sketch, number)

    def test_6_sketches_and_a_7th(self):
        history = History(2)
        for number in range(6):
            self.assertEqual(history.add_sketch(number % 3, number), number)
        self.check_refused(history, ("TooMany", "sketches"), history.add_sketch, 0, 0)
        self.check_refused(history, ("InvalidSketch", "axis"), history.add_sketch, 3, 7)
        self.check_refused(history, ("InvalidSketch", "offset"), history.add_sketch, 2, 7)
        self.assertEqual(history.sketch_count(), 6)


class Adding(Checked):
    def fields_of(self, kind):
        first = ((0, 22, 0),) if kind == "pull" else ("1",)
        return (first + ("1",) * 7)[:FORMS[kind][1]]

    def test_every_kind(self):
        for kind, (of, count, has_tool) in FORMS.items():
            history = with_all_sorts()
            number = {"none": None, "axis": 2, "sketch": 0, "feature": 0}[of]
            for op in ("unite", "less", "common", ""):
                good = (op != "") == has_tool
                fields = self.fields_of(kind)
                if good:
                    added = history.add_feature(kind, op, number, fields)
                    self.assertEqual(history.feature(added), (kind, op, number, fields))
                    self.assertIs(history.is_suppressed(added), False)
                    self.assertEqual(history.order()[-1], added)
                else:
                    self.check_refused(history, ("InvalidFeature", "op"), history.add_feature, kind, op, number, fields)
            self.check_refused(history, ("InvalidFeature", "op"), history.add_feature, kind, "cut", number, fields)
            op = "less" if has_tool else ""
            longer = self.fields_of(kind) + ("1",)
            self.check_refused(history, ("InvalidFeature", "fields"), history.add_feature, kind, op, number, longer)
            if count:
                shorter = self.fields_of(kind)[:-1]
                self.check_refused(history, ("InvalidFeature", "fields"), history.add_feature, kind, op, number, shorter)

    def test_numbers_and_order(self):
        history = History(2)
        self.assertEqual([history.add_feature("block", "unite", None, BLOCK) for _ in range(3)], [0, 1, 2])
        self.assertEqual(history.order(), [0, 1, 2])
        history.drop(2)
        history.drop(0)
        self.assertEqual(history.add_feature("lump", "", None, ()), 3)
        self.assertEqual(history.order(), [1, 3])

    def test_which_error_comes_first(self):
        history = with_all_sorts()
        add = history.add_feature
        self.check_refused(history, ("InvalidFeature", "kind"), add, "bloc", "cut", 7, ())
        self.check_refused(history, ("InvalidFeature", "op"), add, "block", "cut", 7, ())
        self.check_refused(history, ("InvalidFeature", "op"), add, "row", "", 7, ())
        self.check_refused(history, ("InvalidFeature", "of"), add, "block", "less", 7, ())
        self.check_refused(history, ("InvalidFeature", "of"), add, "shift", "", 0, ())
        self.check_refused(history, ("InvalidFeature", "of"), add, "hole", "less", None, ())
        self.check_refused(history, ("InvalidFeature", "of"), add, "hole", "less", 3, ())
        self.check_refused(history, ("InvalidFeature", "of"), add, "hole", "less", -1, ())
        self.check_refused(history, ("NoSuchSketch", 1), add, "prism", "less", 1, ())
        self.check_refused(history, ("NoSuchSketch", -1), add, "wall", "less", -1, ())
        self.check_refused(history, ("NoSuchFeature", 3), add, "row", "less", 3, ())
        self.check_refused(history, ("NoSuchFeature", -1), add, "mirror", "less", -1, ())
        self.check_refused(history, ("InvalidFeature", "tool"), add, "ring", "less", 1, ())
        self.check_refused(history, ("InvalidFeature", "fields"), add, "row", "less", 0, ("+", "+", "+"))
        self.check_refused(history, ("InvalidField", 1), add, "row", "less", 0, ("1", "+", "1", ""))

    def test_rows_of_rows_and_dropped_tools(self):
        history = with_all_sorts()
        self.assertEqual(history.add_feature("mirror", "common", 2, ("0", "1")), 3)
        history.drop(3)
        self.check_refused(history, ("NoSuchFeature", 3), history.add_feature, "mirror", "common", 3, ("0", "1"))

    def test_fields(self):
        history = History(2)
        for k in range(6):
            for item in ("", "1 +", "min", "(1", "1" * 241, (0, 22, 0), None, 1, ["1"]):
                fields = BLOCK[:k] + (item,) + BLOCK[k + 1:]
                self.check_refused(history, ("InvalidField", k), history.add_feature, "block", "less", None, fields)
        for item in ("no_value", " 1 / 0", "200 * 2", "1 ? 2 : 3"):
            history.add_feature("block", "less", None, (item,) + BLOCK[1:])

    def test_names_as_fields(self):
        history = History(2)
        for name in ((0, 0, 0), (23, 26, 99), (100, 100, 10 ** 9)):
            history.add_feature("pull", "", None, (name, "1"))
        for name in ("1", (0, 0), (0, 0, 0, 0), (0, -1, 0), (-1, 0, 0), (0, 0, -1), ("0", "0", "0"), [0, 0, 0], (), None, 7,
                     (0, (1,), 0), (0, 0, None), (True, 0, 0)):
            self.check_refused(history, ("InvalidField", 0), history.add_feature, "pull", "", None, (name, "+"))
        self.check_refused(history, ("InvalidField", 1), history.add_feature, "pull", "", None, ((0, 0, 0), (0, 0, 0)))

    def test_24_features_and_a_25th(self):
        history = History(2)
        for number in range(24):
            self.assertEqual(history.add_feature("lump", "", None, ()), number)
        self.check_refused(history, ("TooMany", "features"), history.add_feature, "lump", "", None, ())
        self.check_refused(history, ("InvalidField", 0), history.add_feature, "grow", "", None, ("+",))
        history.drop(5)
        history.drop(23)
        self.check_refused(history, ("TooMany", "features"), history.add_feature, "lump", "", None, ())
        self.assertEqual(len(history.order()), 22)


class SettingFields(Checked):
    def test_setting(self):
        history = with_all_sorts()
        self.assertIsNone(history.set_field(0, 5, "a + 1"))
        self.assertEqual(history.feature(0), ("block", "unite", None, BLOCK[:5] + ("a + 1",)))
        history.set_field(2, 0, "3")
        self.assertEqual(history.feature(2)[3], ("3", "1", "0", "0"))
        pull = history.add_feature("pull", "", None, ((0, 0, 0), "1"))
        history.set_field(pull, 0, (1, 2, 3))
        history.set_field(pull, 1, "-1")
        self.assertEqual(history.feature(pull), ("pull", "", None, ((1, 2, 3), "-1")))

    def test_refusals(self):
        history = with_all_sorts()
        lump = history.add_feature("lump", "", None, ())
        pull = history.add_feature("pull", "", None, ((0, 0, 0), "1"))
        for number in (-1, 5, 99):
            self.check_refused(history, ("NoSuchFeature", number), history.set_field, number, 9, "+")
        for k in (-1, 6, 100):
            self.check_refused(history, ("InvalidField", k), history.set_field, 0, k, "1")
        self.check_refused(history, ("InvalidField", 0), history.set_field, lump, 0, "1")
        for item in ("+", "", (0, 0, 0), None):
            self.check_refused(history, ("InvalidField", 3), history.set_field, 0, 3, item)
        for item in ("1", (0, 0), (0, 0, -1)):
            self.check_refused(history, ("InvalidField", 0), history.set_field, pull, 0, item)
        self.check_refused(history, ("InvalidField", 1), history.set_field, pull, 1, (0, 0, 0))


class Suppressing(Checked):
    def test_suppressing(self):
        history = with_all_sorts()
        self.assertIs(history.suppress(0, False), False)
        self.assertIs(history.suppress(0, True), True)
        self.assertIs(history.suppress(0, True), False)
        self.assertIs(history.is_suppressed(0), True)
        self.assertIs(history.is_suppressed(1), False)
        self.assertIs(history.suppress(0, False), True)
        self.assertIs(history.is_suppressed(0), False)
        for number in (-1, 3, 24):
            self.check_refused(history, ("NoSuchFeature", number), history.suppress, number, True)
            self.check_refused(history, ("NoSuchFeature", number), history.is_suppressed, number)


class Putting(Checked):
    def test_putting(self):
        history = History(2)
        for _ in range(5):
            history.add_feature("block", "unite", None, BLOCK)
        self.assertIsNone(history.put(0, 3))
        self.assertEqual(history.order(), [1, 2, 3, 0, 4])
        history.put(4, 0)
        self.assertEqual(history.order(), [4, 1, 2, 3, 0])
        history.put(2, 2)
        self.assertEqual(history.order(), [4, 1, 2, 3, 0])
        history.put(4, 4)
        self.assertEqual(history.order(), [1, 2, 3, 0, 4])
        for place in (-1, 5, 100):
            self.check_refused(history, ("InvalidOrder", place), history.put, 0, place)
            self.check_refused(history, ("NoSuchFeature", 5), history.put, 5, place)
        history.drop(1)
        self.check_refused(history, ("InvalidOrder", 4), history.put, 0, 4)
        self.check_refused(history, ("NoSuchFeature", 1), history.put, 1, 0)

    def test_what_a_feature_is_made_from_stands_before_it(self):
        history = with_all_sorts()
        for feature, place in ((0, 2), (2, 0)):
            self.check_refused(history, ("InvalidOrder", place), history.put, feature, place)
        history.put(0, 1)
        self.assertEqual(history.order(), [1, 0, 2])
        self.check_refused(history, ("InvalidOrder", 1), history.put, 2, 1)
        history.put(1, 2)
        self.assertEqual(history.order(), [0, 2, 1])
        # The sketch 0 and the axis 0 are no features.
        prism = history.add_feature("prism", "unite", 0, ("0", "1"))
        hole = history.add_feature("hole", "unite", 0, ("0", "1", "0", "1", "1"))
        history.put(prism, 0)
        history.put(hole, 0)
        self.assertEqual(history.order(), [4, 3, 0, 2, 1])


class Dropping(Checked):
    def test_dropping(self):
        history = with_all_sorts()
        self.check_refused(history, ("FeatureUsed", 0), history.drop, 0)
        self.assertIsNone(history.drop(2))
        self.assertIsNone(history.drop(0))
        self.assertEqual(history.order(), [1])
        for number in (0, 2, 3, -1):
            self.check_refused(history, ("NoSuchFeature", number), history.drop, number)
            self.check_refused(history, ("NoSuchFeature", number), history.feature, number)
            self.check_refused(history, ("NoSuchFeature", number), history.set_field, number, 0, "1")
            self.check_refused(history, ("NoSuchFeature", number), history.suppress, number, True)
        self.assertEqual(history.feature(1), ("shift", "", None, ("0", "0", "1")))

    def test_sketches_and_axes_with_the_same_number_do_not_count(self):
        history = with_all_sorts()
        history.drop(2)
        history.add_feature("prism", "unite", 0, ("0", "1"))
        history.add_feature("hole", "unite", 0, ("0", "1", "0", "1", "1"))
        self.assertIsNone(history.drop(0))
        self.assertIsNone(history.drop(3))


class Asking(Checked):
    def test_what_the_latest_rebuild_left(self):
        history = with_all_sorts()
        asks = (history.state, history.reason, history.solid_after, history.tool)
        for number in (-1, 0, 1, 2, 3):
            for ask in asks:
                self.check_refused(history, ("NoSuchFeature", number), ask, number)
        self.assertEqual(history.rebuild(), [0, 1, 2])
        kept = [ask(0) for ask in asks]
        self.assertEqual(history.add_feature("lump", "", None, ()), 3)
        for ask in asks:
            self.check_refused(history, ("NoSuchFeature", 3), ask, 3)
        solid, names, makers = history.solid(), history.names(), history.makers()
        history.set_field(0, 0, "1 / 0")
        history.suppress(0, True)
        history.put(1, 0)
        history.drop(2)
        self.assertEqual([ask(0) for ask in asks], kept)
        for ask in asks:
            self.check_refused(history, ("NoSuchFeature", 2), ask, 2)
        self.assertEqual((history.solid(), history.names(), history.makers()), (solid, names, makers))
        history.rebuild()
        self.assertEqual(history.state(0), "suppressed")
        self.assertEqual(history.state(3), "failed")
        self.assertEqual(history.solid(), empty(2))

    def test_new_lists_and_dicts_are_returned(self):
        history = with_all_sorts()
        history.rebuild()
        before = seen(history)
        history.order().clear()
        history.makers().clear()
        history.names().clear()
        history.rebuild().append(7)
        for part in history.parts()[:3]:
            part.clear()
        history.parts()[0][0].add_point(1, 1)
        self.assertEqual(seen(history), before)


class Parts(Checked):
    def drawn(self):
        history = with_all_sorts()
        sketch = history.sketch(0)
        for place in rectangle(0, 0, 1, 2):
            sketch.add_point(*place)
        for k in range(4):
            sketch.add_line(k, (k + 1) % 4)
        history.add_feature("prism", "less", 0, ("0", "depth"))
        history.put(3, 0)
        history.suppress(1, True)
        history.drop(history.add_feature("lump", "", None, ()))
        return history

    def test_parts(self):
        sketches, features, order, following = self.drawn().parts()
        self.assertEqual([sketch.points() for sketch in sketches], [list(rectangle(0, 0, 1, 2))])
        self.assertEqual(features, [
            (0, "block", "unite", None, BLOCK, False), (1, "shift", "", None, ("0", "0", "1"), True),
            (2, "row", "unite", 0, ("2", "1", "0", "0"), False), (3, "prism", "less", 0, ("0", "depth"), False)])
        self.assertEqual((order, following), ([3, 0, 1, 2], 5))
        self.assertIsInstance(self.drawn().parts(), tuple)

    def test_taking_over(self):
        source = self.drawn()
        source.rebuild()
        for size in (2, 4):
            history = History(size)
            history.value_table().define("depth", "1")
            history.add_sketch(1, 1)
            history.add_feature("block", "unite", None, BLOCK)
            history.rebuild()
            self.assertIsNone(history.take_over(source.parts()))
            self.assertEqual(full_parts(history), full_parts(source))
            self.assertEqual(history.size, size)
            self.assertEqual(history.value_table().names(), ["depth"])
            self.assertEqual((history.solid(), history.makers(), history.names()), (empty(size), {}, []))
            for number in range(5):
                self.assertEqual(refusal(history.state, number), ("NoSuchFeature", number))
            self.assertIs(history.is_suppressed(1), True)
            self.assertEqual(history.rebuild(), [3, 0, 2])
            self.assertEqual(history.add_feature("lump", "", None, ()), 5)

    def test_what_is_taken_over_is_copied(self):
        source = self.drawn()
        parts = source.parts()
        history = History(2)
        history.take_over(parts)
        wanted = full_parts(history)
        parts[0][0].add_point(1, 1)
        parts[1].pop()
        parts[2].reverse()
        self.assertEqual(full_parts(history), wanted)
        source.suppress(0, True)
        source.set_field(0, 0, "9")
        source.sketch(0).add_point(1, 1)
        self.assertEqual(full_parts(history), wanted)
        history.sketch(0).move_point(0, 5, 5)
        history.set_field(3, 0, "7")
        self.assertEqual(source.sketch(0).points()[0], (0, 0))
        self.assertEqual(source.feature(3)[3], ("0", "depth"))

    def test_taking_over_its_own_parts_forgets_the_rebuilds(self):
        history = self.drawn()
        self.assertEqual(history.rebuild(), [3, 0, 2])
        self.assertEqual(history.rebuild(), [])
        history.take_over(history.parts())
        self.assertEqual(history.solid(), empty(2))
        self.assertEqual(history.rebuild(), [3, 0, 2])


class Interface(unittest.TestCase):
    def test_each_method_is_defined_in_the_class(self):
        for name in ("__init__", "value_table", "add_sketch", "sketch", "sketch_count", "add_feature", "set_field",
                     "suppress", "put", "drop", "order", "feature", "is_suppressed", "rebuild", "solid", "solid_after",
                     "state", "reason", "tool", "makers", "names", "face_named", "parts", "take_over"):
            self.assertIn(name, vars(History))


if __name__ == "__main__":
    unittest.main()
