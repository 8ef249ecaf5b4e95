"""Points 1 to 4 over the whole program: what is made, cut, shown, written and read in one go."""

import random
import time
import unittest

import plain_cuts
from helping import refusal, spotted
from partloft.checking import check_closed, check_cut, check_name
from partloft.cutting import Cutter
from partloft.faces import boundary_of, edge_counts, faces_of, is_closed, signed_volume
from partloft.histories import History
from partloft.papers import closed_paper, cut_paper, name_paper
from partloft.pasts import Past
from partloft.records import read_sketch, read_values, write_sketch, write_values
from partloft.sheets import read_solid, write_solid
from partloft.solids import Solid, whole
from partloft.tools import taken_at, taken_on
from partloft.views import section, shown, strokes


def draw(sketch):
    """A square whose side is the value a, with a disc."""
    for place in ((0, 0), (3, 0), (3, 3), (0, 3)):
        sketch.add_point(*place)
    for at in range(4):
        sketch.add_line(at, (at + 1) % 4)
    sketch.add_disc(0, "1")
    for constraint in ((0, 0, 0, 0, "0"), (1, 0, 0, 0, "0"), (6, 0, 1, 0, ""), (7, 1, 2, 0, ""), (6, 2, 3, 0, ""), (7, 3, 0, 0, ""),
                       (2, 0, 1, 0, "a"), (3, 1, 2, 0, "a")):
        sketch.add_constraint(*constraint)


def some_history(size):
    history = History(size)
    table = history.value_table()
    table.define("a", "1 + b")
    table.define("b", "1 mm / 1 mm")
    table.add_configuration(0)
    table.define("b", "0", 1)
    draw(history.sketch(history.add_sketch(2, 0)))
    history.add_feature("prism", "unite", 0, ("0", "a"))
    history.add_feature("wedge", "unite", None, ("0", "0", "0", "a", "a", "a", "5"))
    history.add_feature("hole", "less", 0, ("1", "1", "0", "a", "1"))
    history.add_feature("row", "unite", 1, ("2", "1", "0", "0"))
    history.add_feature("clean", "", None, ("b + 1",))
    history.add_feature("pull", "", None, ((0, 14, 0), "-1"))
    history.add_feature("split", "", None, ("1", "1", "1", "2 * a + 1"))
    return history


def edit(history, rng):
    """An edit by chance; it may be refused."""
    number = rng.randrange(7)
    works = ((history.value_table().choose, rng.randrange(2)), (history.suppress, number, rng.random() < 0.4),
             (history.put, number, rng.randrange(7)), (history.set_field, number, rng.randrange(3), rng.choice(("a", "1", "0", "2"))),
             (history.value_table().define, "b", rng.choice(("1", "0", "2"))), (history.sketch(0).move_point, 0, rng.randrange(3), 0),
             (history.drop, number))
    refusal(*rng.choice(works[:6] if rng.random() < 0.95 else works))


class Point2(unittest.TestCase):
    """The main guarantee."""

    def check_surface(self, solid):
        self.assertTrue(is_closed(solid))
        self.assertEqual(signed_volume(solid), 2 * solid.many())
        self.assertTrue(all(many % 2 == 0 for many in edge_counts(solid).values()))
        self.assertIs(check_closed(solid, closed_paper(solid)), True)

    def check_names(self, history):
        names = history.names()
        solid, makers = history.solid(), history.makers()
        self.assertEqual(len(names), len(faces_of(solid)))
        self.assertEqual(len(set(names)), len(names))
        for face, name in enumerate(names):
            self.assertEqual(history.face_named(name), face)
        for name in ((6, 14, 5), (0, 13, 0), (23, 22, 0)):
            self.assertEqual(history.face_named(name), names.index(name) if name in names else None)
        for face in range(0, len(names), 9):
            self.assertIs(check_name(solid, makers, names[face], name_paper(solid, makers, face)), True)

    def check_cuts(self, part, radius):
        cutter = Cutter(part, radius)
        stock = whole(part.size)
        left = cutter.left(stock)
        self.assertIsNone(cutter.gouge(cutter.tour()))
        self.assertEqual(left.grains(), plain_cuts.PlainCutter(part, radius).left(stock))
        self.assertEqual(part.less(left).many(), 0)
        self.assertEqual(check_cut(part, radius, stock, cut_paper(part, radius)), left)
        self.check_surface(left)

    def test_histories_with_edits(self):
        rng = random.Random(50)
        for size in (2, 3):
            history = some_history(size)
            for turn in range(12):
                history.rebuild()
                self.assertEqual(history.rebuild(), [])
                for feature in history.order():
                    self.check_surface(history.solid_after(feature))
                self.check_names(history)
                self.check_cuts(history.solid(), 1 + turn % 3)
                again = History(size)
                again.take_over(history.parts())
                for name in history.value_table().names():
                    again.value_table().define(name, history.value_table().formula(name, history.value_table().chosen()))
                again.rebuild()
                self.assertEqual([again.solid_after(feature) for feature in again.order()],
                                 [history.solid_after(feature) for feature in history.order()])
                for _ in range(3):
                    edit(history, rng)

    def test_what_is_written_and_read(self):
        history = some_history(3)
        history.rebuild()
        solid = history.solid()
        self.assertGreater(solid.many(), 100)
        self.assertEqual(read_solid(write_solid(solid)), solid)
        values = read_values(write_values(history.value_table()))
        self.assertEqual([values.value(name) for name in "ab"], [history.value_table().value(name) for name in "ab"])
        sketch = read_sketch(write_sketch(history.sketch(0)))
        other = History(3)
        for name in "ab":
            other.value_table().define(name, values.formula(name, 0))
        _, features, order, following = history.parts()
        other.take_over(([sketch], features, order, following))
        other.rebuild()
        self.assertEqual((other.solid(), other.makers(), other.names()), (solid, history.makers(), history.names()))
        past = Past(write_solid(solid), 5)
        history.value_table().choose(1)
        history.rebuild()
        past.add(write_solid(history.solid()))
        self.assertNotEqual(read_solid(past.present()), solid)
        past.back()
        self.assertEqual(read_solid(past.present()), solid)


class Points3And4(unittest.TestCase):
    def test_the_same_calls_have_the_same_results(self):
        part = spotted(2, 25)
        makers = {facet: facet[1] for facet in boundary_of(part)}
        works = ((cut_paper, part, 1), (closed_paper, part), (name_paper, part, makers, 2), (shown, part, 0, True),
                 (strokes, 2, shown(part, 0, True)), (section, part, 1, 1), (write_solid, part), (taken_at, 2, 1, (1, 1, 0)),
                 (taken_on, 2, 1, (1, 1, 0), (1, 0, 0)), (Cutter(part, 2).tour,), (Cutter(part, 2).left, whole(2)))
        for work, *arguments in works:
            self.assertEqual(work(*arguments), work(*arguments))
        self.assertEqual((part, makers), (spotted(2, 25), {facet: facet[1] for facet in boundary_of(part)}))

    def test_lists_and_dicts_are_copied(self):
        grains = [3, 1, 2]
        solid = Solid(2, grains)
        grains.clear()
        solid.grains().clear()
        self.assertEqual(solid.grains(), [1, 2, 3])
        self.assertEqual(read_solid(write_solid(solid)).grains(), [1, 2, 3])
        cutter = Cutter(solid, 1)
        places = cutter.tour()
        cutter.taken(places)
        cutter.gouge(places)
        self.assertEqual(places, cutter.tour())
        for work in (cutter.tour, cutter.reached):
            before = work()
            work().pop()
            self.assertEqual(work(), before)

    def test_small_rooms_are_fast(self):
        for solid in (spotted(3, 2), spotted(3, 40), whole(3)):
            makers = {facet: 0 for facet in boundary_of(solid)}
            for work in (lambda: check_cut(solid, 1, whole(3), cut_paper(solid, 1)), lambda: check_closed(solid, closed_paper(solid)),
                         lambda: check_name(solid, makers, (0, 0, 0), name_paper(solid, makers, 0)), lambda: Cutter(solid, 2).left(whole(3)),
                         lambda: strokes(3, shown(solid, 0, True)), lambda: read_solid(write_solid(solid))):
                start = time.perf_counter()
                work()
                self.assertLess(time.perf_counter() - start, 1)


if __name__ == "__main__":
    unittest.main()
