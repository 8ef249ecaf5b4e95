"""Points 125 and 127 to 129: which papers are accepted."""

import random
import unittest

import odd_papers
import plain_cuts
import plain_surfaces
from helping import block, spotted
from partloft.checking import check_closed, check_cut, check_name
from partloft.cutting import Cutter
from partloft.faces import boundary_of, faces_of
from partloft.histories import History
from partloft.papers import closed_paper, cut_paper, name_paper
from partloft.solids import Solid, empty, whole
from partloft.tools import taken_at, taken_on
from test_cutting import some_parts
from test_papers import some_solids


class Cuts(unittest.TestCase):
    def check(self, part, radius, paper, is_good):
        """Asks of a paper whether it is accepted, by the program and by the words of point 127."""
        for stock in (whole(part.size), spotted(part.size, 3), part, empty(part.size)):
            found = check_cut(part, radius, stock, paper)
            if is_good:
                self.assertIsInstance(found, Solid)
                self.assertEqual(found.size, part.size)
                self.assertEqual(found.grains(), plain_cuts.PlainCutter(part, radius).left(stock))
            else:
                self.assertIsNone(found)
        self.assertEqual(plain_cuts.is_accepted(part, radius, paper), is_good)

    def test_papers_of_cuts(self):
        for part in some_parts():
            for radius in (1, 2, 3):
                self.check(part, radius, cut_paper(part, radius), True)

    def test_papers_of_other_cuts(self):
        for part, other in ((empty(2), whole(2)), (whole(2), empty(2)), (spotted(2, 30), spotted(2, 30, 1)), (whole(2), whole(3)),
                            (empty(3), empty(2))):
            for radius in (1, 2, 3):
                self.check(part, radius, cut_paper(other, radius), False)
        self.check(block(3, (0, 0, 0), (1, 1, 2)), 1, cut_paper(block(3, (0, 0, 0), (1, 1, 2)), 2), False)

    def test_other_tours(self):
        for part in (whole(2), spotted(2, 30), block(3, (0, 0, 2), (1, 1, 3))):
            for radius in (1, 2):
                word, tour, reached, blocks = cut_paper(part, radius)
                self.check(part, radius, (word, tour[::-1], reached, blocks), True)
                self.check(part, radius, (word, tour + tour[1:], reached, blocks), True)
                self.check(part, radius, (word, tour + tour[-2:], reached, blocks), True)

    def test_other_grains(self):
        for part in (whole(2), spotted(2, 10), block(3, (0, 0, 2), (1, 1, 3))):
            for radius in (1, 3):
                word, tour, reached, blocks = cut_paper(part, radius)
                last = tuple((place, other, max(plain_cuts.taken(part.size, radius, place, other) & set(part.grains())))
                             for place, other, _ in blocks)
                self.assertNotEqual(last, blocks)
                self.check(part, radius, (word, tour, reached, last), True)

    def test_the_form(self):
        part = spotted(2, 30)
        paper = cut_paper(part, 1)
        for wrong in (paper[1:], paper + ((),), paper[:3], ("cuts",) + paper[1:], ("closed",) + paper[1:], (None,) + paper[1:],
                      list(paper), "cut", None, 4, (), (paper,)):
            self.check(part, 1, wrong, False)

    def test_the_tour_begins_and_ends_with_the_start_and_goes_by_steps(self):
        part = block(2, (0, 0, 0), (2, 2, 1))
        word, tour, reached, blocks = cut_paper(part, 1)
        self.check(part, 1, (word, tour, reached, blocks), True)
        for wrong in ((), tour[:1], tour[1:], tour[:-1], tour[1:-1], tour + tour, tour[:1] + tour, tour[:4] + ((2, 2, 1),) + tour[3:],
                      tour[:4] + (tour[3],) + tour[4:], tour[:3] + tour[4:], tour[:1] + tour[:3] + tour[:1] + tour[1:]):
            self.check(part, 1, (word, wrong, reached, blocks), False)
        # Above and beside the room the tool takes nothing, but there are no places.
        for beyond in ((0, 0, 3), (-1, 0, 2), (0, -1, 2)):
            self.check(part, 1, (word, tour + (beyond, tour[0]), tuple(sorted(reached + (beyond,))), blocks), False)
            self.check(part, 1, (word, tour + (beyond, tour[0]), reached, blocks), False)

    def test_reached_has_the_places_of_the_tour(self):
        part = block(3, (0, 0, 2), (1, 1, 3))
        word, tour, reached, blocks = cut_paper(part, 1)
        for wrong in ((), reached[1:], reached[:-1], reached + reached[-1:], reached[:1] + reached, reached[::-1], list(reached),
                      (reached[1], reached[0]) + reached[2:]):
            self.check(part, 1, (word, tour, wrong, blocks), False)
        # A place left out with its blocks, and one added with blocks for all its steps.
        for place in reached:
            kept = tuple(one for one in blocks if one[0] != place)
            self.check(part, 1, (word, tour, tuple(one for one in reached if one != place), kept), False)
        for place in [one for one in plain_cuts.places_of(3) if one not in reached]:
            more = self.blocks_at(part, 1, place)
            self.check(part, 1, (word, tour, tuple(sorted(reached + (place,))), tuple(sorted(blocks + more))), False)

    def blocks_at(self, part, radius, place):
        found = []
        for other in plain_cuts.neighbours(part.size, place):
            grains = plain_cuts.taken(part.size, radius, place, other) & set(part.grains())
            found.append((place, other, min(grains)))
        return tuple(found)

    def test_each_step_is_gone_along_or_blocked(self):
        part = block(3, (0, 0, 0), (1, 3, 2))
        word, tour, reached, blocks = cut_paper(part, 1)
        self.assertGreater(len(blocks), 4)
        for at, row in enumerate(blocks):
            place, other, grain = row
            self.check(part, 1, (word, tour, reached, blocks[:at] + blocks[at + 1:]), False)
            self.check(part, 1, (word, tour, reached, blocks[:at] + (row,) + blocks[at:]), False)
            self.check(part, 1, (word, tour, reached, blocks[:at] + ((other, place, grain),) + blocks[at + 1:]), False)
        for at in range(len(blocks) - 1):
            swapped = blocks[:at] + (blocks[at + 1], blocks[at]) + blocks[at + 2:]
            self.check(part, 1, (word, tour, reached, swapped), False)
        self.check(part, 1, (word, tour, reached, blocks[::-1]), False)
        self.check(part, 1, (word, tour, reached, ()), False)
        # A step that is free is gone along; there is no block for it as well.
        free = (tour[0], tour[1], part.grains()[0])
        self.check(part, 1, (word, tour, reached, tuple(sorted(blocks + (free,)))), False)

    def test_a_tour_that_leaves_a_free_step_out(self):
        for part in (empty(2), block(2, (0, 0, 0), (2, 2, 1))):
            word, tour, reached, blocks = cut_paper(part, 1)
            left_out = 0
            for at in range(2, len(tour)):
                if tour[at - 2] == tour[at]:
                    shorter = tour[:at - 1] + tour[at + 1:]
                    self.check(part, 1, (word, shorter, tuple(sorted(set(shorter))), blocks), False)
                    left_out += 1
            self.assertGreater(left_out, 5)
        self.check(empty(2), 1, ("cut", ((0, 0, 2),), ((0, 0, 2),), ()), False)
        self.check(whole(2), 1, ("cut", ((0, 0, 2),), ((0, 0, 2),), (((0, 0, 2), (0, 0, 1), 96),)), False)

    def test_the_grain_of_a_block(self):
        part = block(2, (0, 0, 0), (2, 2, 1)).united(Solid(2, [100]))
        word, tour, reached, blocks = cut_paper(part, 1)
        for at, (place, other, _) in enumerate(blocks):
            taken = plain_cuts.taken(2, 1, place, other)
            for grain in (*range(-1, 193), 10 ** 6, None, "", (), (0,)):
                paper = (word, tour, reached, blocks[:at] + ((place, other, grain),) + blocks[at + 1:])
                good = grain in taken and part.has(grain)
                found = check_cut(part, 1, whole(2), paper)
                self.assertEqual(found is not None, good)

    def test_the_tool_takes_no_grain_of_the_part(self):
        part = block(2, (0, 0, 0), (2, 2, 1))
        word, tour, reached, blocks = cut_paper(part, 1)
        # The tour goes down into the part and up again; the blocks are those that are then left to be told.
        deeper = tour + ((0, 0, 1), (0, 0, 0), (0, 0, 1), (0, 0, 2))
        more = self.blocks_at(part, 1, (0, 0, 0))[:-1]
        kept = tuple(one for one in blocks if one[:2] != ((0, 0, 1), (0, 0, 0)))
        paper = (word, deeper, tuple(sorted(reached + ((0, 0, 0),))), tuple(sorted(more + kept)))
        self.assertEqual(more[0][:2], ((0, 0, 0), (1, 0, 0)))
        self.check(part, 1, paper, False)
        # The same steps are right where there is no part; only the blocks are not.
        self.check(empty(2), 1, paper, False)

    def test_a_step_between_free_places_that_takes_a_grain(self):
        part = taken_on(3, 1, (1, 1, 2), (2, 1, 2)).less(taken_at(3, 1, (1, 1, 2))).less(taken_at(3, 1, (2, 1, 2)))
        word, tour, reached, blocks = cut_paper(part, 1)
        one, two = (1, 1, 2), (2, 1, 2)
        self.assertIn((one, two), [row[:2] for row in blocks])
        at = tour.index(one)
        longer = tour[:at + 1] + (two, one) + tour[at + 1:]
        kept = tuple(row for row in blocks if row[:2] not in ((one, two), (two, one)))
        self.check(part, 1, (word, longer, reached, kept), False)
        self.check(part, 1, (word, longer, reached, blocks), False)
        self.check(part, 1, (word, tour, reached, blocks), True)

    def test_stocks_that_are_smaller_than_the_part(self):
        part = block(2, (0, 0, 0), (2, 2, 1))
        for radius in (1, 2, 3):
            paper = cut_paper(part, radius)
            for stock in (empty(2), Solid(2, [0, 150]), spotted(2, 5), part):
                self.assertEqual(check_cut(part, radius, stock, paper), Cutter(part, radius).left(stock))
        self.assertEqual(check_cut(part, 1, Solid(2, [0, 150]), cut_paper(part, 1)), Solid(2, [0]))

    def test_changes_by_chance(self):
        rng = random.Random(11)
        accepted = 0
        for part, radius in ((spotted(2, 30), 1), (block(2, (0, 0, 0), (2, 1, 2)), 2), (whole(2), 3), (empty(2), 2)):
            paper = cut_paper(part, radius)
            ways = list(odd_papers.nodes(paper))
            for _ in range(600):
                wrong = odd_papers.changed(paper, rng, ways)
                found = check_cut(part, radius, whole(2), wrong)
                is_good = plain_cuts.is_accepted(part, radius, wrong)
                self.assertEqual(found is not None, is_good)
                if is_good:
                    self.assertEqual(found, Cutter(part, radius).left(whole(2)))
                    accepted += 1
        # Other grains, and items exchanged for the same ones.
        self.assertGreater(accepted, 10)

    def test_no_papers(self):
        for wrong in odd_papers.NO_PAPERS:
            self.assertIsNone(check_cut(spotted(2, 30), 1, whole(2), wrong))

    def test_large_numbers_and_deep_tuples(self):
        part = whole(2)
        word, tour, reached, blocks = cut_paper(part, 1)
        for junk in odd_papers.JUNK:
            for wrong in ((word, junk, reached, blocks), (word, tour[:1] + (junk,) + tour[1:], reached, blocks), (word, tour, junk, blocks),
                          (word, tour, (junk,) + reached[1:], blocks), (word, tour, reached, junk), (word, tour, reached, (junk,) + blocks[1:]),
                          (word, tour, reached, ((junk,) + blocks[0][1:],) + blocks[1:]),
                          (word, tour, reached, (blocks[0][:2] + (junk,),) + blocks[1:]), (junk, tour, reached, blocks)):
                if wrong[0] != "cut" or wrong != cut_paper(part, 1):
                    self.assertIsNone(check_cut(part, 1, whole(2), wrong))

    def test_nothing_is_modified(self):
        part, stock = spotted(2, 30), whole(2)
        paper = cut_paper(part, 1)
        check_cut(part, 1, stock, paper)
        self.assertEqual((part, stock, paper), (spotted(2, 30), whole(2), cut_paper(part, 1)))

    def test_a_large_room(self):
        part = block(6, (1, 1, 0), (3, 4, 5))
        paper = cut_paper(part, 3)
        self.assertEqual(check_cut(part, 3, whole(6), paper), Cutter(part, 3).left(whole(6)))
        self.assertIsNone(check_cut(part, 2, whole(6), paper))


class ClosedSurfaces(unittest.TestCase):
    def check(self, solid, paper, is_good):
        self.assertIs(check_closed(solid, paper), is_good)
        self.assertIs(plain_surfaces.is_closed_paper(solid, paper), is_good)

    def test_papers_of_surfaces(self):
        for solid in some_solids():
            self.check(solid, closed_paper(solid), True)
        for part in some_parts():
            left = Cutter(part, 1).left(whole(part.size))
            self.check(left, closed_paper(left), True)

    def test_papers_of_other_solids(self):
        solids = list(some_solids())
        for solid in solids:
            for other in solids:
                if solid != other:
                    self.check(solid, closed_paper(other), False)

    def test_rows(self):
        # Two blocks with a common edge have a row with four facets.
        solid = block(3, (0, 0, 0), (1, 1, 1)).united(block(3, (1, 1, 0), (2, 2, 1)))
        rows = closed_paper(solid)[1]
        self.assertIn(4, [len(row[2]) for row in rows])
        self.check(solid, ("closed", rows[::-1]), False)
        for at in range(0, len(rows), 7):
            before, row, after = rows[:at], rows[at], rows[at + 1:]
            self.check(solid, ("closed", before + after), False)
            self.check(solid, ("closed", before + (row, row) + after), False)
            self.check(solid, ("closed", before + ((row[1], row[0], row[2]),) + after), False)
            self.check(solid, ("closed", before + (row[:2],) + after), False)
            self.check(solid, ("closed", before + (row + ((),),) + after), False)
            if at > 0:
                self.check(solid, ("closed", rows[:at - 1] + (row, rows[at - 1]) + after), False)
        self.check(solid, ("closed", ()), False)
        self.check(solid, ("closed", rows + (((9, 9, 9), (9, 9, 10), ()),)), False)
        self.check(solid, ("closed", rows + (((5, 5, 5), (6, 6, 6), ()),)), False)

    def test_rows_in_the_wrong_order(self):
        solid = Solid(2, [0])
        rows = closed_paper(solid)[1]
        for at in range(len(rows)):
            for to in range(len(rows)):
                if at != to:
                    moved = rows[:at] + rows[at + 1:]
                    self.check(solid, ("closed", moved[:to] + (rows[at],) + moved[to:]), False)

    def test_two_rows_of_one_pair(self):
        # Together they have the right facets, but their pairs are not strictly ascending.
        solid = block(3, (0, 0, 0), (1, 1, 1)).united(block(3, (1, 1, 0), (2, 2, 1)))
        rows = closed_paper(solid)[1]
        for at, (low, high, facets) in enumerate(rows):
            if len(facets) == 4:
                for one, two in ((facets[:2], facets[2:]), (facets[2:], facets[:2]), ((facets[0], facets[3]), facets[1:3])):
                    self.check(solid, ("closed", rows[:at] + ((low, high, one), (low, high, two)) + rows[at + 1:]), False)

    def test_facets_that_stand_twice_in_one_row_and_not_in_another(self):
        # Of the three pairs of opposite sides of a grain, one is doubled, and one left out: each facet stands three times.
        rows = closed_paper(Solid(2, [0]))[1]
        for one in rows:
            opposite = [row for row in rows if not set(row[2]) & set(one[2])]
            self.assertEqual(len(opposite), 1)
            doubled = [one, opposite[0]]
            for other in rows:
                if other not in doubled:
                    left_out = [other] + [row for row in rows if not set(row[2]) & set(other[2])]
                    paper = tuple((low, high, tuple(sorted(facets * 2)) if (low, high, facets) in doubled else facets)
                                  for low, high, facets in rows if (low, high, facets) not in left_out)
                    self.assertEqual(sum(len(row[2]) for row in paper), 12)
                    self.check(Solid(2, [0]), ("closed", paper), False)

    def test_facets(self):
        solid = block(3, (0, 0, 0), (1, 1, 1)).united(block(3, (1, 1, 0), (2, 2, 1)))
        rows = closed_paper(solid)[1]
        wide = [at for at, row in enumerate(rows) if len(row[2]) == 4]
        for at in list(range(0, len(rows), 9)) + wide:
            low, high, facets = rows[at]
            outside = (facets[0][0] + 1, facets[0][1])
            for wrong in ((), facets[:-1], facets[:-2], facets[2:], facets + facets, facets + facets[-1:], (facets[0],) * len(facets),
                          facets[::-1], (facets[1], facets[0]) + facets[2:], (outside,) + facets[1:], facets[:-1] + (outside,),
                          tuple(sorted(facets + (outside, (647, 0)))), list(facets), None, facets[0], (facets,)):
                self.check(solid, ("closed", rows[:at] + ((low, high, wrong),) + rows[at + 1:]), False)

    def test_facets_that_do_not_have_both_corners(self):
        # Of two grains that lie apart, pairs of facets are told at each other's corners.
        solid = Solid(2, [0, 120])
        rows = closed_paper(solid)[1]
        self.assertEqual(len(rows), 12)
        for one in range(12):
            for other in range(one):
                exchanged = list(rows)
                exchanged[one] = rows[one][:2] + (rows[other][2],)
                exchanged[other] = rows[other][:2] + (rows[one][2],)
                self.check(solid, ("closed", tuple(exchanged)), rows[one][2] == rows[other][2])

    def test_inner_facets_are_not_on_the_boundary(self):
        solid = whole(2)
        word, rows = closed_paper(solid)
        inner = closed_paper(Solid(2, [0]))[1]
        more = {row[:2]: row for row in inner}
        more.update({row[:2]: row for row in rows})
        self.check(solid, (word, tuple(more[pair] for pair in sorted(more))), False)

    def test_a_hidden_hole(self):
        # All rows are even, but a facet is missing in all of its rows together with those beside it.
        solid = whole(2)
        word, rows = closed_paper(solid)
        top = {facet for row in rows for facet in row[2] if row[0][2] == row[1][2] == 4}
        kept = tuple((low, high, left) for low, high, left in
                     ((low, high, tuple(one for one in facets if one not in top)) for low, high, facets in rows) if left)
        self.check(solid, (word, kept), False)
        self.check(solid, (word, rows[:0]), False)
        self.check(empty(2), (word, ()), True)

    def test_changes_by_chance(self):
        rng = random.Random(12)
        for solid in (Solid(2, [0]), Solid(2, [7, 50]), spotted(2, 3), empty(2)):
            paper = closed_paper(solid)
            ways = list(odd_papers.nodes(paper))
            for _ in range(500):
                wrong = odd_papers.changed(paper, rng, ways)
                self.check(solid, wrong, plain_surfaces.is_closed_paper(solid, wrong))

    def test_no_papers(self):
        for solid in (Solid(2, [0]), empty(2)):
            for wrong in odd_papers.NO_PAPERS:
                self.check(solid, wrong, solid == empty(2) and wrong == ("closed", ()))
            for wrong in (list(closed_paper(solid)), ("closed", list(closed_paper(solid)[1])), ("Closed", closed_paper(solid)[1])):
                self.check(solid, wrong, False)

    def test_large_numbers_and_deep_tuples(self):
        solid = Solid(2, [0])
        word, rows = closed_paper(solid)
        low, high, facets = rows[0]
        for junk in odd_papers.JUNK:
            for row in (junk, (junk, high, facets), (low, junk, facets), (low, high, junk), (low, high, (junk, facets[1])),
                        (low, high, ((junk, 0), facets[1])), (low, high, ((0, junk), facets[1])), ((0, 0, junk), high, facets),
                        ((junk, 0, 0), high, facets)):
                paper = (word, (row,) + rows[1:])
                self.check(solid, paper, row == rows[0])
            self.check(solid, (junk, rows), junk == "closed")
            self.check(solid, (word, junk), False)


class Names(unittest.TestCase):
    def named(self):
        """Some solids with makers of their boundary facets."""
        for solid in some_solids():
            facets = boundary_of(solid)
            yield solid, {facet: 0 for facet in facets}
            yield solid, {facet: (facet[0] // 3 + facet[1]) % 3 for facet in facets}

    def test_papers_of_names(self):
        for solid, makers in self.named():
            names = plain_surfaces.names(solid, makers)
            before = dict(makers)
            some = range(0, len(names), len(names) // 6 + 1)
            for face in some:
                paper = name_paper(solid, makers, face)
                for other in some:
                    self.assertIs(check_name(solid, makers, names[other], paper), other == face)
            self.assertEqual(makers, before)

    def test_other_numbers_of_faces(self):
        solid = whole(2)
        makers = {facet: 3 for facet in boundary_of(solid)}
        names = plain_surfaces.names(solid, makers)
        for at, name in enumerate(names):
            word, _, told = name_paper(solid, makers, at)
            for face in (*range(-8, 9), 100, 10 ** 5000, -10 ** 40, None, "", "0", (), (at,)):
                self.assertIs(check_name(solid, makers, name, (word, face, told)), face == at)

    def test_other_names(self):
        solid = block(3, (0, 0, 0), (1, 1, 1)).united(block(3, (1, 1, 0), (2, 2, 1)))
        makers = {facet: 3 for facet in boundary_of(solid)}
        names = plain_surfaces.names(solid, makers)
        self.assertIn((3, 14, 1), names)
        for name in ((3, 14, 0), (3, 14, 1), (3, 14, 2), (3, 13, 0), (2, 14, 0), (0, 14, 0)):
            found = [face for face in range(len(names)) if check_name(solid, makers, name, name_paper(solid, makers, face))]
            self.assertEqual(found, [names.index(name)] if name in names else [])

    def test_makers(self):
        solid = Solid(2, [0, 120])
        makers = {facet: number for number, facet in enumerate(boundary_of(solid))}
        names = plain_surfaces.names(solid, makers)
        word, face, told = name_paper(solid, makers, 2)
        self.assertIs(check_name(solid, makers, names[2], (word, face, told)), True)
        for wrong in ((), told[1:], told[:-1], told + (0,), told[::-1], told[:3] + (9,) + told[4:], (None,) * 8, list(told), None, told[0],
                      tuple(str(one) for one in told), tuple((one,) for one in told)):
            self.assertIs(check_name(solid, makers, names[2], (word, face, wrong)), False)
        others = {facet: 7 - makers[facet] for facet in makers}
        self.assertIs(check_name(solid, others, names[2], (word, face, told)), False)

    def test_the_names_of_a_history(self):
        history = History(3)
        history.add_feature("block", "unite", None, ("0", "0", "0", "3", "3", "1"))
        history.add_feature("block", "less", None, ("1", "1", "0", "2", "2", "1"))
        history.add_feature("wedge", "unite", None, ("0", "0", "1", "1", "1", "2", "4"))
        history.rebuild()
        solid, makers, names = history.solid(), history.makers(), history.names()
        for face, name in enumerate(names):
            self.assertIs(check_name(solid, makers, name, name_paper(solid, makers, face)), True)
            self.assertEqual(history.face_named(name), face)
        self.assertIs(check_name(solid, makers, names[0], name_paper(solid, makers, 1)), False)

    def test_empty_solids(self):
        self.assertIs(check_name(empty(2), {}, (0, 22, 0), ("named", 0, ())), False)

    def test_changes_by_chance(self):
        rng = random.Random(13)
        for solid in (Solid(2, [0]), spotted(2, 3)):
            makers = {facet: facet[0] % 2 for facet in boundary_of(solid)}
            names = plain_surfaces.names(solid, makers)
            for face in (0, len(faces_of(solid)) - 1):
                paper = name_paper(solid, makers, face)
                ways = list(odd_papers.nodes(paper))
                for _ in range(300):
                    wrong = odd_papers.changed(paper, rng, ways)
                    self.assertIs(check_name(solid, makers, names[face], wrong), wrong == paper)

    def test_no_papers(self):
        solid = Solid(2, [0])
        makers = {facet: 0 for facet in boundary_of(solid)}
        for wrong in odd_papers.NO_PAPERS:
            self.assertIs(check_name(solid, makers, (0, 12, 0), wrong), False)
        word, face, told = name_paper(solid, makers, 0)
        for wrong in ((word, face), (word, face, told, told), ("name", face, told), (None, face, told), [word, face, told], (face, told)):
            self.assertIs(check_name(solid, makers, (0, 12, 0), wrong), False)
        self.assertIs(check_name(solid, makers, (0, 12, 0), (word, face, told)), True)


if __name__ == "__main__":
    unittest.main()
