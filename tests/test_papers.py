"""Points 126, 128 and 129: the papers that are written."""

import unittest

import plain_cuts
import plain_surfaces
from helping import block, refusal, spotted
from partloft.cutting import Cutter
from partloft.faces import boundary_of, edge_counts, faces_of, signed_volume
from partloft.histories import History
from partloft.papers import closed_paper, cut_paper, name_paper
from partloft.solids import Solid, empty, whole
from test_cutting import some_parts


def is_of_plain_kinds(item):
    """Point 125: tuples, integers and texts."""
    if isinstance(item, tuple):
        return all(is_of_plain_kinds(one) for one in item)
    return type(item) in (int, str)


class CutPapers(unittest.TestCase):
    def test_against_the_words(self):
        for part in some_parts():
            for radius in (1, 2, 3):
                plain = plain_cuts.PlainCutter(part, radius)
                blocks = []
                for place in sorted(plain.reached):
                    for other in plain_cuts.neighbours(part.size, place):
                        if not plain.is_free(place, other):
                            grain = min(plain_cuts.taken(part.size, radius, place, other) & plain.part)
                            blocks.append((place, other, grain))
                wanted = ("cut", tuple(plain.tour()), tuple(sorted(plain.reached)), tuple(blocks))
                found = cut_paper(part, radius)
                self.assertEqual(found, wanted)
                self.assertTrue(is_of_plain_kinds(found))

    def test_by_hand(self):
        word, tour, reached, blocks = cut_paper(empty(2), 1)
        self.assertEqual((word, tour, len(reached), blocks), ("cut", tuple(Cutter(empty(2), 1).tour()), 27, ()))
        word, tour, reached, blocks = cut_paper(whole(2), 1)
        self.assertEqual((len(tour), len(reached), len(blocks)), (25, 9, 9))
        # The least grains above z = 1 that the disc about the corner has, and about the middle.
        self.assertEqual(blocks[0], ((0, 0, 2), (0, 0, 1), 96))
        self.assertEqual([block[:2] for block in blocks], [((x, y, 2), (x, y, 1)) for x in range(3) for y in range(3)])

    def test_what_is_refused(self):
        for radius in (0, 4, -1):
            self.assertEqual(refusal(cut_paper, empty(2), radius), ("InvalidRadius", radius))


def some_solids():
    yield from (empty(2), whole(2), Solid(2, [0]), Solid(2, [7, 50]), spotted(2, 3), spotted(3, 4), whole(3))
    # Blocks that share an edge: four facets have the same pair of corners.
    yield block(3, (0, 0, 0), (1, 1, 1)).united(block(3, (1, 1, 0), (2, 2, 1)))
    yield whole(3).less(block(3, (1, 1, 1), (2, 2, 2)))


class ClosedPapers(unittest.TestCase):
    def test_against_the_words(self):
        for solid in some_solids():
            found = closed_paper(solid)
            self.assertEqual(found, ("closed", plain_surfaces.closed_rows(solid)))
            self.assertTrue(is_of_plain_kinds(found))
            self.assertEqual({row[:2]: len(row[2]) for row in found[1]}, edge_counts(solid))

    def test_one_grain(self):
        self.assertEqual(closed_paper(Solid(2, [0])), ("closed", (
            ((0, 0, 0), (1, 1, 0), ((0, 0), (0, 2))), ((0, 0, 0), (1, 1, 1), ((0, 1), (0, 2))),
            ((0, 0, 0), (2, 0, 0), ((0, 0), (0, 1))), ((1, 1, 0), (1, 1, 1), ((0, 2), (0, 3))),
            ((1, 1, 0), (2, 0, 0), ((0, 0), (0, 3))), ((1, 1, 1), (2, 0, 0), ((0, 1), (0, 3))))))
        self.assertEqual(closed_paper(empty(2)), ("closed", ()))

    def test_the_left_of_a_cut_is_closed(self):
        for part in some_parts():
            left = Cutter(part, 1).left(whole(part.size))
            rows = closed_paper(left)[1]
            self.assertTrue(all(len(row[2]) % 2 == 0 for row in rows))
            self.assertEqual(signed_volume(left), 2 * left.many())


class NamePapers(unittest.TestCase):
    def test_against_the_words(self):
        for solid in some_solids():
            makers = {facet: (facet[0] + facet[1]) % 5 for facet in boundary_of(solid)}
            before = dict(makers)
            for face in range(0, len(faces_of(solid)), 10):
                wanted = ("named", face, tuple(makers[facet] for facet in sorted(makers)))
                found = name_paper(solid, makers, face)
                self.assertEqual(found, wanted)
                self.assertTrue(is_of_plain_kinds(found))
            self.assertEqual(makers, before)

    def test_the_makers_of_a_history(self):
        history = History(2)
        history.add_feature("block", "unite", None, ("0", "0", "0", "1", "2", "1"))
        history.add_feature("block", "unite", None, ("0", "0", "1", "1", "1", "2"))
        history.rebuild()
        makers = history.makers()
        # The order of the dict does not matter.
        turned = {facet: makers[facet] for facet in reversed(list(makers))}
        paper = name_paper(history.solid(), turned, 3)
        self.assertEqual(paper, ("named", 3, tuple(makers[facet] for facet in boundary_of(history.solid()))))
        self.assertEqual(set(paper[2]), {0, 1})


if __name__ == "__main__":
    unittest.main()
