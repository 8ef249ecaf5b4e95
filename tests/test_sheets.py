"""Points 150, 151 and 154 for solids: their sheets."""

import functools
import itertools
import random
import re
import time
import unittest

import sheet_changes
from helping import block, refusal, spotted
from partloft.grains import grain_at, grain_count, middle_of
from partloft.sheets import read_solid, write_solid
from partloft.solids import Solid, empty, whole


def some_solids():
    yield from (empty(2), whole(2), empty(6), whole(6), Solid(2, [0]), Solid(2, [191]), Solid(6, [5183]), spotted(2, 3))
    yield from (spotted(2, 5).rest(), spotted(3, 4), spotted(4, 3, 1), block(3, (0, 1, 0), (2, 3, 2)), block(5, (1, 1, 1), (3, 4, 2)))
    # Rows of cubes with gaps.
    yield block(5, (0, 0, 0), (1, 1, 1)).united(block(5, (2, 0, 0), (5, 2, 1)))
    yield block(5, (0, 2, 0), (2, 3, 1)).united(block(5, (3, 2, 0), (4, 3, 1)))


def number_in_cube(size, grain):
    """T, X, Y and Z of a grain."""
    middle = middle_of(size, grain)
    cube = [one // 8 for one in middle]
    others = [one for one in range(grain_count(size)) if [two // 8 for two in middle_of(size, one)] == [0, 0, 0]]
    inner = grain_at(size, *[one % 8 for one in middle])
    return (others.index(inner), *cube)


def written_slowly(solid):
    rows = {}
    for grain in solid.grains():
        t, x, y, z = number_in_cube(solid.size, grain)
        rows.setdefault((t, z, y), []).append(x)
    lines = [f"solid {solid.size}"]
    for t, z, y in sorted(rows):
        xs = sorted(rows[(t, z, y)])
        while xs:
            many = 1
            while xs[0] + many in xs:
                many += 1
            lines.append(f"run {t} {z} {y} {xs[0]} {many}")
            xs = xs[many:]
    return "\n".join(lines + ["end"])


def solid_of_lines(lines):
    """The solid that a head and runs tell, in whatever order they are; None if they cannot be read at all."""
    head = re.fullmatch("solid ([2-6])", lines[0], re.ASCII)
    if head is None:
        return None
    size = int(head.group(1))
    grains = []
    for line in lines[1:]:
        found = re.fullmatch(r"run (\d{1,3}) (\d{1,3}) (\d{1,3}) (\d{1,3}) (\d{1,3})", line, re.ASCII)
        if found is None:
            return None
        t, z, y, x, many = [int(one) for one in found.groups()]
        if not (t < 24 and max(x, y, z) < size and x + many <= size):
            return None
        corner = middle_of(1, t)
        for k in range(x, x + many):
            grains.append(grain_at(size, 8 * k + corner[0], 8 * y + corner[1], 8 * z + corner[2]))
    return Solid(size, grains)


@functools.lru_cache(maxsize=None)
def is_sheet(lines):
    if lines[-1] != "end" or len(lines) < 2:
        return False
    solid = solid_of_lines(lines[:-1])
    return solid is not None and write_solid(solid) == "\n".join(lines)


def is_beginning(lines):
    """If lines begin a sheet, they are a sheet or they are one together with the line end."""
    return is_sheet(lines) or is_sheet((*lines, "end"))


class Writing(unittest.TestCase):
    def test_against_the_words(self):
        for solid in some_solids():
            if solid.size < 6:
                before = solid.grains()
                self.assertEqual(write_solid(solid), written_slowly(solid))
                self.assertEqual(solid.grains(), before)

    def test_by_hand(self):
        self.assertEqual(write_solid(empty(4)), "solid 4\nend")
        self.assertEqual(write_solid(Solid(2, [0])), "solid 2\nrun 0 0 0 0 1\nend")
        self.assertEqual(write_solid(Solid(2, [191])), "solid 2\nrun 23 1 1 1 1\nend")
        lines = write_solid(whole(3)).split("\n")
        self.assertEqual(lines[1:4], ["run 0 0 0 0 3", "run 0 0 1 0 3", "run 0 0 2 0 3"])
        self.assertEqual((len(lines), lines[-2]), (2 + 24 * 9, "run 23 2 2 0 3"))
        row = Solid(5, [grain_at(5, 8 * k + 4, 2, 1) for k in (0, 1, 3, 4)])
        self.assertEqual(write_solid(row), "solid 5\nrun 0 0 0 0 2\nrun 0 0 0 3 2\nend")

    def test_the_numbers_of_the_grains_of_a_cube(self):
        for t in range(24):
            x, y, z = middle_of(1, t)
            grain = grain_at(3, x + 8, y, z + 16)
            self.assertEqual(write_solid(Solid(3, [grain])), f"solid 3\nrun {t} 2 0 1 1\nend")


class Reading(unittest.TestCase):
    def test_sheets_give_what_was_written(self):
        for solid in some_solids():
            text = write_solid(solid)
            found = read_solid(text)
            self.assertIsInstance(found, Solid)
            self.assertEqual(found, solid)
            self.assertEqual((found.size, found.grains(), found.many()), (solid.size, solid.grains(), solid.many()))
            self.assertEqual(write_solid(found), text)
            self.assertEqual(found.rest(), solid.rest())
            self.assertIsNot(read_solid(text), found)

    def test_cut_off_behind_each_line(self):
        for solid in (empty(2), Solid(2, [0]), spotted(2, 3), spotted(3, 20)):
            lines = write_solid(solid).split("\n")
            for many in range(1, len(lines)):
                self.assertEqual(refusal(read_solid, "\n".join(lines[:many])), ("InvalidSheet", many + 1))

    def test_changed_sheets(self):
        rng = random.Random(21)
        seen = set()
        for solid in (empty(2), Solid(2, [0]), Solid(3, [0, 30, 31, 400]), block(4, (1, 0, 0), (2, 1, 1)), spotted(3, 30)):
            text = write_solid(solid)
            for changed in sheet_changes.changes(text, rng, 4):
                wanted = sheet_changes.first_wrong_line(changed, is_beginning, is_sheet)
                self.assertEqual(sheet_changes.answer(read_solid, changed), wanted, changed[:300])
                seen.add(wanted)
                if wanted is None:
                    self.assertEqual(write_solid(read_solid(changed)), changed)
        self.assertGreater(len(seen), 10)

    def check(self, line, *lines):
        self.assertEqual(sheet_changes.answer(read_solid, "\n".join(lines)), line)

    def test_heads(self):
        for size in (2, 3, 4, 5, 6):
            self.check(None, f"solid {size}", "end")
        for head in ("solid 1", "solid 7", "solid 0", "solid -2", "solid 02", "solid", "solid ", "solid  2", " solid 2", "solid 2 ",
                     "solid 2 2", "Solid 2", "solid two", "solid 2.0", "solid +2", "values", "end", "run 0 0 0 0 1", ""):
            self.check(1, head, "end")
        self.check(2, "solid 2")
        self.check(2, "solid 2", "solid 2", "end")
        self.assertEqual(refusal(read_solid, ""), ("InvalidSheet", 1))

    def test_runs(self):
        self.check(None, "solid 3", "run 0 0 0 0 3", "end")
        for run in ("run 24 0 0 0 1", "run -1 0 0 0 1", "run 0 3 0 0 1", "run 0 0 3 0 1", "run 0 0 0 3 1", "run 0 0 0 0 0", "run 0 0 0 0 4",
                    "run 0 0 0 1 3", "run 0 0 0 0", "run 0 0 0 0 1 1", "run 0 0 0 0 1 ", "run  0 0 0 0 1", "run 0 -1 0 0 1", "run 0 0 0 -1 1",
                    "run 0 0 -1 0 1", "run 0 0 0 0 -1", "run 00 0 0 0 1", "run -0 0 0 0 1", "run 0 0 0 0 01", "runs 0 0 0 0 1", "run", ""):
            self.check(2, "solid 3", run, "end")

    def test_the_order_of_runs(self):
        good = ["run 0 0 0 0 1", "run 0 0 0 2 1", "run 0 0 1 0 2", "run 0 1 0 0 1", "run 1 0 0 0 1", "run 1 0 0 2 1", "run 5 0 0 0 3"]
        self.check(None, "solid 3", *good, "end")
        for one, two in itertools.product(range(len(good)), repeat=2):
            self.check(None if one < two else 3, "solid 3", good[one], good[two], "end")
        # Runs that are not longest.
        self.check(3, "solid 3", "run 0 0 0 0 1", "run 0 0 0 1 1", "end")
        self.check(3, "solid 3", "run 0 0 0 0 2", "run 0 0 0 2 1", "end")
        self.check(3, "solid 4", "run 0 0 0 0 2", "run 0 0 0 1 2", "end")
        self.check(None, "solid 4", "run 0 0 0 0 2", "run 0 0 0 3 1", "end")
        self.check(None, "solid 3", "run 0 0 0 1 2", "run 0 0 1 0 1", "end")

    def test_ends(self):
        for end in ("end ", " end", "END", "end 0", "ends", ""):
            self.check(2, "solid 2", end)
        self.check(3, "solid 2", "end", "")
        self.check(3, "solid 2", "end", "end")
        self.check(3, "solid 2", "end", "run 0 0 0 0 1")
        self.check(4, "solid 2", "run 0 0 0 0 1", "end", "x", "y")

    def test_large_sheets_are_fast(self):
        solid = Solid(6, list(range(0, grain_count(6), 2)))
        start = time.perf_counter()
        text = write_solid(solid)
        self.assertEqual(read_solid(text), solid)
        self.assertLess(time.perf_counter() - start, 2)


if __name__ == "__main__":
    unittest.main()
