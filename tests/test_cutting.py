"""Points 112 to 115: free places and steps, the tour, what is left, and gouges."""

import random
import unittest

import plain_cuts
from helping import block, refusal, spotted
from partloft.cutting import Cutter
from partloft.solids import Solid, empty, whole
from partloft.tools import taken_at, taken_on


def some_parts():
    yield from (empty(2), whole(2), Solid(2, [0]), Solid(2, [191]), spotted(2, 30), block(2, (0, 0, 0), (2, 2, 1)))
    # At the side of the start, so that one does not come down there.
    yield from (block(2, (0, 0, 1), (1, 1, 2)), block(3, (0, 0, 2), (1, 1, 3)), block(3, (0, 0, 0), (1, 3, 3)))
    yield from (empty(3), Solid(3, [400]), spotted(3, 60), block(3, (1, 1, 0), (2, 2, 3)), spotted(3, 150, 7).rest())
    # A pit, and a bridge over a hole in which no tool can come.
    yield whole(3).less(block(3, (1, 1, 1), (3, 3, 3)))
    yield block(3, (0, 1, 2), (3, 2, 3)).united(block(3, (0, 0, 0), (3, 3, 1)))


def some_cutters():
    for part in some_parts():
        for radius in (1, 2, 3):
            yield Cutter(part, radius), plain_cuts.PlainCutter(part, radius)


def walk(rng, size, many):
    """A list of places, each one step from the place before it."""
    places = [rng.choice(plain_cuts.places_of(size))]
    for _ in range(many):
        places.append(rng.choice(plain_cuts.neighbours(size, places[-1])))
    return places


class Creation(unittest.TestCase):
    def test_attributes(self):
        part = spotted(2, 5)
        for radius in (1, 2, 3):
            cutter = Cutter(part, radius)
            self.assertIs(cutter.part, part)
            self.assertEqual(cutter.radius, radius)
        for radius in (0, 4, -1):
            self.assertEqual(refusal(Cutter, part, radius), ("InvalidRadius", radius))


class Free(unittest.TestCase):
    def test_all_places_and_steps(self):
        for cutter, plain in some_cutters():
            for place in plain_cuts.places_of(plain.size):
                self.assertIs(cutter.is_free(place), plain.is_free(place))
            for place, other in plain_cuts.steps_of(plain.size):
                self.assertIs(cutter.is_free_step(place, other), plain.is_free(place, other))

    def test_a_step_between_free_places_that_is_not_free(self):
        part = taken_on(3, 1, (1, 1, 0), (2, 1, 0)).less(taken_at(3, 1, (1, 1, 0))).less(taken_at(3, 1, (2, 1, 0)))
        cutter = Cutter(part, 1)
        self.assertIs(cutter.is_free((1, 1, 0)), True)
        self.assertIs(cutter.is_free((2, 1, 0)), True)
        self.assertIs(cutter.is_free_step((1, 1, 0), (2, 1, 0)), False)
        self.assertIs(cutter.is_free_step((2, 1, 0), (1, 1, 0)), False)
        self.assertIs(cutter.is_free_step((2, 1, 3), (1, 1, 3)), True)

    def test_a_free_step_has_free_places(self):
        for cutter, plain in some_cutters():
            for place, other in plain_cuts.steps_of(plain.size):
                if cutter.is_free_step(place, other):
                    self.assertTrue(cutter.is_free(place) and cutter.is_free(other))

    def test_what_is_refused(self):
        cutter = Cutter(empty(2), 1)
        self.assertEqual(refusal(cutter.is_free, (0, 3, 0)), ("NoSuchPlace", (0, 3, 0)))
        self.assertEqual(refusal(cutter.is_free, (0, 0, -1)), ("NoSuchPlace", (0, 0, -1)))
        self.assertEqual(refusal(cutter.is_free_step, (0, 0, 3), (0, 0, 4)), ("NoSuchPlace", (0, 0, 3)))
        self.assertEqual(refusal(cutter.is_free_step, (0, 0, 0), (0, 0, 4)), ("NoSuchPlace", (0, 0, 4)))
        for other in ((0, 0, 0), (1, 1, 0), (2, 0, 0), (0, 0, 2), (1, 1, 1)):
            self.assertEqual(refusal(cutter.is_free_step, (0, 0, 0), other), ("NoStep", (0, 0, 0), other))


class Tours(unittest.TestCase):
    def test_reached_places(self):
        for cutter, plain in some_cutters():
            self.assertEqual(cutter.reached(), sorted(plain.reached))

    def test_tours(self):
        for cutter, plain in some_cutters():
            tour = cutter.tour()
            self.assertEqual(tour, plain.tour())
            self.assertEqual((tour[0], tour[-1]), ((0, 0, plain.size), (0, 0, plain.size)))
            self.assertEqual(sorted(set(tour)), cutter.reached())

    def test_every_free_step_is_gone_along_and_no_other_one(self):
        for cutter, plain in some_cutters():
            tour = cutter.tour()
            gone = {frozenset(step) for step in zip(tour, tour[1:])}
            wanted = {frozenset((place, other)) for place in plain.reached for other in plain_cuts.neighbours(plain.size, place)
                      if plain.is_free(place, other)}
            self.assertEqual(gone, wanted)
            # Once there and once back.
            self.assertEqual(len(tour), 2 * len(wanted) + 1)

    def test_by_hand(self):
        # Over a room that is full, the tool only goes about on top; each step that closes a ring is gone back at once.
        top = [(0, 0), (1, 0), (2, 0), (2, 1), (1, 1), (0, 1), (0, 0), (0, 1), (0, 2), (1, 2), (2, 2), (2, 1), (2, 2), (1, 2),
               (1, 1), (1, 2), (0, 2), (0, 1), (1, 1), (1, 0), (1, 1), (2, 1), (2, 0), (1, 0), (0, 0)]
        self.assertEqual(Cutter(whole(2), 1).tour(), [(x, y, 2) for x, y in top])
        self.assertEqual(Cutter(whole(2), 3).reached(), sorted({(x, y, 2) for x, y in top}))
        self.assertEqual(len(Cutter(empty(2), 1).reached()), 27)
        self.assertEqual(len(Cutter(empty(2), 1).tour()), 2 * 54 + 1)
        self.assertEqual(Cutter(empty(2), 2).tour()[:5], [(0, 0, 2), (1, 0, 2), (2, 0, 2), (2, 1, 2), (1, 1, 2)])

    def test_a_grain_beside_the_start(self):
        cutter = Cutter(block(3, (0, 0, 2), (1, 1, 3)), 1)
        self.assertNotIn((0, 0, 2), cutter.reached())
        self.assertNotIn((0, 0, 0), cutter.reached())
        self.assertIn((0, 0, 3), cutter.reached())
        self.assertIn((2, 2, 0), cutter.reached())

    def test_new_lists_are_returned(self):
        cutter = Cutter(whole(2), 1)
        for work in (cutter.reached, cutter.tour):
            first = work()
            work().clear()
            self.assertEqual(work(), first)


class Taken(unittest.TestCase):
    def test_lists_of_places(self):
        rng = random.Random(5)
        for size in (2, 3):
            for radius in (1, 2, 3):
                cutter = Cutter(whole(size), radius)
                self.assertEqual(cutter.taken([]), empty(size))
                for many in (0, 1, 2, 5, 30):
                    places = walk(rng, size, many)
                    before = list(places)
                    self.assertEqual(cutter.taken(places), Solid(size, sorted(plain_cuts.taken_by(size, radius, places))))
                    self.assertEqual(places, before)

    def test_the_steps_count(self):
        cutter = Cutter(empty(3), 1)
        both = taken_at(3, 1, (1, 1, 0)).united(taken_at(3, 1, (2, 1, 0)))
        on = cutter.taken([(1, 1, 0), (2, 1, 0)])
        self.assertEqual(on, taken_on(3, 1, (1, 1, 0), (2, 1, 0)))
        self.assertLess(both.many(), on.many())
        self.assertEqual(cutter.taken([(2, 1, 1)]), taken_at(3, 1, (2, 1, 1)))

    def test_what_is_refused(self):
        cutter = Cutter(empty(2), 1)
        self.assertEqual(refusal(cutter.taken, [(0, 0, 0), (1, 1, 1), (3, 0, 0), (4, 0, 0)]), ("NoSuchPlace", (3, 0, 0)))
        self.assertEqual(refusal(cutter.taken, [(0, -1, 0)]), ("NoSuchPlace", (0, -1, 0)))
        self.assertEqual(refusal(cutter.taken, [(0, 0, 0), (0, 0, 1), (0, 0, 1)]), ("NoStep", (0, 0, 1), (0, 0, 1)))
        self.assertEqual(refusal(cutter.taken, [(0, 0, 0), (0, 1, 1), (2, 2, 2)]), ("NoStep", (0, 0, 0), (0, 1, 1)))


class Left(unittest.TestCase):
    def test_exactly_what_is_not_taken(self):
        for cutter, plain in some_cutters():
            for stock in (whole(plain.size), empty(plain.size), spotted(plain.size, 3), cutter.part):
                left = cutter.left(stock)
                self.assertEqual(left.grains(), plain.left(stock))
                self.assertEqual(stock.common(cutter.part).less(left), empty(plain.size))
                self.assertEqual(left.less(stock), empty(plain.size))

    def test_it_is_the_stock_less_what_the_tour_takes(self):
        for cutter, plain in some_cutters():
            stock = spotted(plain.size, 2)
            self.assertEqual(cutter.left(stock), stock.less(cutter.taken(cutter.tour())))
            self.assertEqual(cutter.taken(cutter.tour()).common(cutter.part), empty(plain.size))

    def test_by_hand(self):
        for radius in (1, 2, 3):
            self.assertEqual(Cutter(empty(3), radius).left(whole(3)), empty(3))
            self.assertEqual(Cutter(whole(3), radius).left(whole(3)), whole(3))
            self.assertEqual(Cutter(whole(3), radius).left(spotted(3, 4)), spotted(3, 4))
            table = block(3, (0, 0, 0), (3, 3, 1))
            self.assertEqual(Cutter(table, radius).left(whole(3)), table)
        # Under a bridge the tool takes nothing.
        bridge = block(3, (0, 0, 2), (3, 3, 3))
        self.assertEqual(Cutter(bridge, 1).left(whole(3)), whole(3))

    def test_a_large_room(self):
        part = block(6, (2, 2, 0), (4, 4, 5))
        for radius in (1, 3):
            cutter = Cutter(part, radius)
            self.assertEqual(cutter.left(whole(6)).grains(), plain_cuts.PlainCutter(part, radius).left(whole(6)))


class Gouges(unittest.TestCase):
    def test_against_the_words(self):
        rng = random.Random(8)
        seen = set()
        for cutter, plain in some_cutters():
            self.assertIsNone(cutter.gouge([]))
            for many in (0, 1, 3, 8):
                places = walk(rng, plain.size, many)
                if many == 3:
                    places = [rng.choice((place, rng.choice(places))) for place in places]
                before = list(places)
                found = cutter.gouge(places)
                self.assertEqual(found, plain.gouge(places))
                self.assertEqual(places, before)
                seen.add(found)
        self.assertLessEqual({None, 0, 1, 2, 3}, seen)

    def test_tours_do_not_gouge(self):
        for cutter, _ in some_cutters():
            self.assertIsNone(cutter.gouge(cutter.tour()))
            self.assertIsNone(cutter.gouge(cutter.tour()[::-1]))

    def test_by_hand(self):
        cutter = Cutter(block(2, (0, 0, 0), (2, 2, 1)), 1)
        self.assertEqual(cutter.gouge([(0, 0, 0)]), 0)
        self.assertIsNone(cutter.gouge([(0, 0, 1)]))
        self.assertEqual(cutter.gouge([(0, 0, 1), (0, 0, 0), (0, 0, 0)]), 1)
        self.assertEqual(cutter.gouge([(0, 0, 1), (0, 0, 1)]), 1)
        self.assertEqual(cutter.gouge([(0, 0, 2), (0, 0, 1), (1, 1, 1)]), 2)
        self.assertEqual(cutter.gouge([(0, 0, 1), (2, 2, 0)]), 1)

    def test_a_step_that_gouges(self):
        part = taken_on(3, 1, (1, 1, 0), (2, 1, 0)).less(taken_at(3, 1, (1, 1, 0))).less(taken_at(3, 1, (2, 1, 0)))
        cutter = Cutter(part, 1)
        self.assertEqual(cutter.gouge([(1, 1, 1), (1, 1, 0), (2, 1, 0), (2, 1, 1)]), 2)
        self.assertIsNone(cutter.gouge([(2, 1, 0)]))

    def test_what_is_refused(self):
        cutter = Cutter(whole(2), 1)
        self.assertEqual(refusal(cutter.gouge, [(0, 0, 0), (1, 1, 1), (0, 0, 3), (3, 3, 3)]), ("NoSuchPlace", (0, 0, 3)))
        self.assertEqual(refusal(cutter.gouge, [(-1, 0, 0)]), ("NoSuchPlace", (-1, 0, 0)))


class Rests(unittest.TestCase):
    def test_nothing_is_modified(self):
        part, stock = spotted(2, 9), whole(2)
        cutter = Cutter(part, 2)
        cutter.left(stock)
        refusal(cutter.taken, [(0, 0, 0), (2, 2, 2)])
        cutter.gouge(cutter.tour())
        self.assertEqual((part, stock, cutter.part, cutter.radius), (spotted(2, 9), whole(2), spotted(2, 9), 2))
        self.assertEqual(cutter.tour(), Cutter(part, 2).tour())


if __name__ == "__main__":
    unittest.main()
