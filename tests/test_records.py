"""Points 150 and 152 to 154: the sheets of values and of sketches."""

import itertools
import random
import time
import unittest

import plain_records
import sheet_changes
from helping import refusal, sketch_of
from partloft.errors import Fault, LoftError
from partloft.records import read_sketch, read_values, write_sketch, write_values
from partloft.sketches import Sketch
from partloft.solving import conflict, solve
from partloft.values import Values

EXAMPLE = ("values", "configuration 0", "value a 1", "value b a", "own 1 a b", "own 1 b 1", "chosen 0", "end")

NAMES = ("a", "b", "width", "W_2", "x1", "long_name_12")


def seen_values(values):
    """All that can be asked of values."""
    names, count = values.names(), values.configuration_count()
    found = [names, count, values.chosen(), [[values.formula(name, k) for k in range(count)] for name in names]]
    before = values.chosen()
    for k in range(count):
        values.choose(k)
        for name in names:
            try:
                found.append(values.value(name))
            except Fault as fault:
                found.append(fault.word)
    values.choose(before)
    return found


def random_formula(rng, names):
    parts = [rng.choice((*names, "1", "2 mm", "unknown", "1.50", "3 cm")) for _ in range(rng.randrange(1, 4))]
    text = rng.choice((" + ", "*", "  -  ", "/")).join(parts)
    return rng.choice(("", " ", "  ")) + text + rng.choice(("", "", "  "))


def change_values(values, rng):
    """A further change, and what it told."""
    choice = rng.randrange(8)
    name, number = rng.choice((*NAMES, "new", "mm")), rng.randrange(-1, 5)
    if choice == 0:
        return refusal(values.add_configuration, number) or values.configuration_count()
    if choice == 1:
        return refusal(values.choose, number) or values.chosen()
    text = random_formula(rng, NAMES)
    return refusal(values.define, name, text, number if choice > 4 else 0)


def random_values(rng):
    values = Values()
    for _ in range(rng.randrange(40)):
        change_values(values, rng)
    return values


class Values152(unittest.TestCase):
    """Writing values, and reading what was written."""

    def check(self, values, *lines):
        before = seen_values(values)
        self.assertEqual(write_values(values), "\n".join(lines))
        self.assertEqual(seen_values(values), before)
        found = read_values("\n".join(lines))
        self.assertIsInstance(found, Values)
        self.assertEqual(seen_values(found), before)
        self.assertEqual(write_values(found), "\n".join(lines))
        return found

    def test_by_hand(self):
        values = Values()
        self.check(values, "values", "chosen 0", "end")
        values.define("b", "2 mm")
        values.define("a", " b+  1 cm ")
        self.check(values, "values", "value b 2 mm", "value a  b+  1 cm ", "chosen 0", "end")
        values.add_configuration(0)
        values.add_configuration(1)
        values.add_configuration(0)
        values.define("a", "7", 3)
        values.define("a", "b", 2)
        values.define("b", "3", 2)
        values.choose(2)
        self.check(values, "values", "configuration 0", "configuration 1", "configuration 0", "value b 2 mm", "value a  b+  1 cm ",
                   "own 2 b 3", "own 2 a b", "own 3 a 7", "chosen 2", "end")
        # A value that gets another formula stays where it is; an own formula may be the one of the base.
        values.define("b", "1")
        values.define("b", "1", 1)
        self.check(values, "values", "configuration 0", "configuration 1", "configuration 0", "value b 1", "value a  b+  1 cm ",
                   "own 1 b 1", "own 2 b 3", "own 2 a b", "own 3 a 7", "chosen 2", "end")

    def test_the_example(self):
        values = Values()
        values.add_configuration(0)
        values.define("a", "1")
        values.define("b", "a")
        self.assertEqual(refusal(values.define, "a", "b", 1), ("InvalidFormula", 0))
        values.define("b", "1", 1)
        values.define("a", "b", 1)
        self.check(values, *EXAMPLE)
        without = [line for line in EXAMPLE if line != "own 1 b 1"]
        self.assertEqual(sheet_changes.answer(read_values, "\n".join(without)), 6)
        self.assertEqual(sheet_changes.answer(read_values, "\n".join(without[:5])), 6)

    def test_own_formulas_in_another_order(self):
        orders = set()
        for order in itertools.permutations([("a", "b", 1), ("b", "c", 1), ("c", "2", 1), ("c", "3", 2), ("a", "c", 2)]):
            values = Values()
            for name in "abc":
                values.define(name, "1")
            values.add_configuration(0)
            values.add_configuration(1)
            for row in order:
                values.define(*row)
            orders.add(write_values(values))
            self.assertEqual(seen_values(read_values(write_values(values))), seen_values(values))
        self.assertEqual(orders, {"values\nconfiguration 0\nconfiguration 1\nvalue a 1\nvalue b 1\nvalue c 1\nown 1 a b\nown 1 b c\n"
                                  "own 1 c 2\nown 2 a c\nown 2 c 3\nchosen 0\nend"})

    def test_what_was_written_has_the_same_further_changes(self):
        rng = random.Random(31)
        for _ in range(60):
            values = random_values(rng)
            found = read_values(write_values(values))
            self.assertEqual(seen_values(found), seen_values(values))
            seed = rng.random()
            one, two = random.Random(seed), random.Random(seed)
            for _ in range(30):
                self.assertEqual(change_values(values, one), change_values(found, two))
            self.assertEqual(seen_values(found), seen_values(values))
            self.assertEqual(write_values(found), write_values(values))

    def test_values_that_were_read_are_apart_from_others(self):
        text = "\n".join(EXAMPLE)
        one, two = read_values(text), read_values(text)
        one.define("a", "5")
        one.choose(1)
        self.assertEqual(write_values(two), text)


class Values154(unittest.TestCase):
    """The first wrong line of a text."""

    def check(self, line, *lines):
        text = "\n".join(lines)
        self.assertEqual(sheet_changes.answer(read_values, text), line, text[:500])
        wanted = sheet_changes.first_wrong_line(text, plain_records.is_values_beginning, plain_records.is_values_sheet)
        self.assertEqual(wanted, line)

    def test_cut_off_behind_each_line(self):
        rng = random.Random(32)
        for text in ["\n".join(EXAMPLE)] + [write_values(random_values(rng)) for _ in range(20)]:
            lines = text.split("\n")
            for many in range(1, len(lines)):
                self.assertEqual(refusal(read_values, "\n".join(lines[:many])), ("InvalidSheet", many + 1))

    def test_changed_sheets(self):
        rng = random.Random(33)
        texts = ["\n".join(EXAMPLE), write_values(Values())] + [write_values(random_values(rng)) for _ in range(12)]
        seen = set()
        for text in texts:
            for changed in sheet_changes.changes(text, rng, 3):
                wanted = sheet_changes.first_wrong_line(changed, plain_records.is_values_beginning, plain_records.is_values_sheet)
                self.assertEqual(sheet_changes.answer(read_values, changed), wanted, changed[:500])
                seen.add(wanted)
                if wanted is None:
                    self.assertEqual(write_values(read_values(changed)), changed)
        self.assertGreater(len(seen), 10)

    def test_own_formulas_by_chance(self):
        # Few names that all need each other, so that many lines make a value need itself.
        rng = random.Random(34)
        seen = {}
        for _ in range(3000):
            names = "abcd"[:rng.randrange(2, 5)]
            bases = [rng.randrange(k + 1) for k in range(rng.randrange(1, 4))]
            rows = [f"value {name} {rng.choice(names + '12')}" for name in names]
            own = [f"own {k + 1} {name} {rng.choice(names + '1')}" for k in range(len(bases)) for name in names if rng.random() < 0.6]
            lines = ("values", *[f"configuration {base}" for base in bases], *rows, *own, f"chosen {rng.randrange(len(bases) + 1)}", "end")
            text = "\n".join(lines)
            wanted = sheet_changes.first_wrong_line(text, plain_records.is_values_beginning, plain_records.is_values_sheet)
            self.assertEqual(sheet_changes.answer(read_values, text), wanted, text)
            word = "good" if wanted is None else lines[wanted - 1].split(" ")[0]
            seen[word] = seen.get(word, 0) + 1
        self.assertGreater(min(seen[word] for word in ("value", "own", "chosen", "good")), 10)

    def test_heads_and_ends(self):
        self.check(None, "values", "chosen 0", "end")
        for head in ("", "Values", "values ", " values", "values 1", "chosen 0", "value a 1", "configuration 0", "solid 2", "sketch 0 0"):
            self.check(1, head, "chosen 0", "end")
        for line in ("", "end", "values", "own 1 a 1", "chosen 1", "chosen -1", "chosen 00", "chosen", "chosen ", "chosen 0 0", "chosen  0"):
            self.check(2, "values", line, "end")
        for line in ("", "End", "end ", "chosen 0", "value a 1"):
            self.check(3, "values", "chosen 0", line)
        self.check(4, "values", "chosen 0", "end", "")
        self.check(4, "values", "chosen 0", "end", "end")
        self.check(3, "values", "chosen 0")
        self.assertEqual(refusal(read_values, ""), ("InvalidSheet", 1))

    def test_configurations(self):
        self.check(None, "values", "configuration 0", "configuration 1", "configuration 2", "chosen 3", "end")
        self.check(None, "values", "configuration 0", "configuration 0", "configuration 0", "chosen 1", "end")
        self.check(5, "values", "configuration 0", "configuration 0", "configuration 0", "configuration 0", "chosen 1", "end")
        for base in ("1", "-1", "00", "-0", "", "a", "0 0", " 0"):
            self.check(2, "values", "configuration " + base, "chosen 0", "end")
        self.check(3, "values", "configuration 0", "configuration 2", "chosen 0", "end")
        self.check(3, "values", "configuration 0", "chosen 2", "end")
        self.check(3, "values", "value a 1", "configuration 0", "chosen 0", "end")

    def test_values(self):
        self.check(None, "values", "value a b", "value c  2 mm ", "chosen 0", "end")
        for line in ("value a", "value a ", "value a  ", "value  1", "value mm 1", "value min 1", "value 1 1", "value _a 1", "value a_very_long_1 1",
                     "value a 1 1", "value a a", "value a 1 + (a)", "value a " + "1" * 6, "value a " + "1+" * 120 + "1", "values a 1", "value"):
            self.check(2, "values", line, "chosen 0", "end")
        self.check(None, "values", "value a " + "1+" * 119 + "11", "chosen 0", "end")
        self.check(3, "values", "value a 1", "value a 1", "chosen 0", "end")
        self.check(3, "values", "value a b", "value b a", "chosen 0", "end")
        self.check(4, "values", "value a b", "value b c", "value c 1 + a", "chosen 0", "end")
        self.check(None, "values", "value a b", "value b c", "value c 1 + d", "chosen 0", "end")

    def test_40_values_and_a_41st(self):
        rows = [f"value v{number} 1" for number in range(40)]
        self.check(None, "values", *rows, "chosen 0", "end")
        self.check(42, "values", *rows, "value v40 1", "chosen 0", "end")

    def test_own_formulas(self):
        head = ("values", "configuration 0", "configuration 0", "value a 1", "value b a", "value c 1")
        self.check(None, *head, "own 1 a 2", "own 1 c b", "own 2 a 1 ", "chosen 0", "end")
        for line in ("own 0 a 1", "own 3 a 1", "own -1 a 1", "own 01 a 1", "own 1 d 1", "own 1 a", "own 1 a ", "own 1  1", "own a 1 1", "own 1 a a",
                     "own 1 a 1 1", "own 1 b 1 + b", "own 1", "own"):
            self.check(7, *head, line, "chosen 0", "end")
        rows = ["own 1 a 2", "own 1 b 2", "own 1 c 2", "own 2 a 2", "own 2 b 2", "own 2 c 2"]
        for one, two in itertools.product(range(6), repeat=2):
            self.check(None if one < two else 8, *head, rows[one], rows[two], "chosen 0", "end")

    def test_whether_later_lines_can_change_that_a_value_needs_itself(self):
        head = ("values", "configuration 0", "configuration 1", "value a 1", "value b a", "value c 1")
        self.check(None, *head, "own 1 a b", "own 1 b 1", "chosen 0", "end")
        self.check(8, *head, "own 1 a b", "chosen 0", "end")
        # Behind the line of c, b cannot get its own formula any more.
        self.check(8, *head, "own 1 a b", "own 1 c 1", "chosen 0", "end")
        self.check(8, *head, "own 1 a b", "own 2 a 1", "chosen 0", "end")
        self.check(8, *head, "own 1 a b", "own 1 b c + a", "own 1 c 1", "chosen 0", "end")
        # Here c stands in the way, and it comes later.
        self.check(None, *head, "own 1 a c", "own 1 b 2", "own 1 c b", "chosen 0", "end")
        self.check(9, *head, "own 1 a c", "own 1 b 2", "own 1 c a", "chosen 0", "end")
        # The configuration 2 has its formulas from the configuration 1.
        self.check(None, *head, "own 1 a c", "own 2 c 5", "chosen 2", "end")
        self.check(8, *head, "own 1 a c", "own 2 c b", "chosen 2", "end")
        self.check(None, *head, "own 1 a 1", "own 2 a b", "own 2 b 1", "chosen 2", "end")
        self.check(9, *head, "own 1 a 1", "own 2 a b", "chosen 2", "end")

    def test_the_largest_values_are_fast(self):
        names = [chr(97 + k) for k in range(26)] + [chr(65 + k) for k in range(14)]
        rows = ["+".join((names[:at][::-1] * 120)[:119]) if at else "1" for at in range(40)]
        own = [f"own {k} {name} {text}" for k in (1, 2, 3) for name, text in zip(names, rows)]
        lines = ("values", "configuration 0", "configuration 1", "configuration 2", *[f"value {name} {text}" for name, text in zip(names, rows)],
                 *own, "chosen 3", "end")
        start = time.perf_counter()
        values = read_values("\n".join(lines))
        self.assertEqual(write_values(values), "\n".join(lines))
        self.assertEqual(sheet_changes.answer(read_values, "\n".join(lines[:-1])), len(lines))
        self.assertEqual(refusal(values.define, "a", "-".join(names), 0), ("InvalidFormula", 0))
        self.assertLess(time.perf_counter() - start, 2)


def seen_sketch(sketch):
    """All that can be asked of a sketch."""
    values = Values()
    solution = solve(sketch, values)
    return (sketch.axis(), sketch.offset(), sketch.points(), sketch.lines(), sketch.discs(), sketch.constraints(),
            vars(solution), conflict(sketch, values))


def change_sketch(sketch, rng):
    """A further change, and what it told."""
    number = rng.randrange(-1, 8)
    other = rng.randrange(5)
    text = rng.choice(("1", " 2 mm ", "a + 1", "1 +"))
    works = ((sketch.add_point, rng.randrange(-201, 201), number), (sketch.add_line, number, other), (sketch.add_line, other, other - 1),
             (sketch.add_disc, other, text), (sketch.add_constraint, rng.randrange(24), other, number, rng.randrange(3), text),
             (sketch.add_constraint, rng.randrange(18), other, rng.randrange(3), 0, "7"), (sketch.drop_line, number),
             (sketch.drop_disc, number), (sketch.drop_constraint, number), (sketch.move_point, number, other, 3))
    work, *arguments = rng.choice(works)
    try:
        return work(*arguments)
    except LoftError as error:
        return (type(error).__name__, *vars(error).values())


def random_sketch(rng):
    sketch = Sketch(rng.randrange(3), rng.randrange(7))
    for _ in range(rng.randrange(70)):
        change_sketch(sketch, rng)
    return sketch


class Sketches153(unittest.TestCase):
    """Writing sketches, and reading what was written."""

    def check(self, sketch, *lines):
        before = seen_sketch(sketch)
        self.assertEqual(write_sketch(sketch), "\n".join(lines))
        self.assertEqual(seen_sketch(sketch), before)
        found = read_sketch("\n".join(lines))
        self.assertIsInstance(found, Sketch)
        self.assertEqual(seen_sketch(found), before)
        self.assertEqual(write_sketch(found), "\n".join(lines))

    def test_by_hand(self):
        sketch = Sketch(1, 6)
        self.check(sketch, "sketch 1 6", "added 0 0 0", "end")
        for place in ((0, -200), (3, 0), (200, 7)):
            sketch.add_point(*place)
        for ends in ((0, 1), (1, 2), (2, 0)):
            sketch.add_line(*ends)
        sketch.add_disc(2, " 1 +a ")
        sketch.add_disc(0, "2")
        for row in ((0, 1, 9, 9, " 5 "), (17, 1, 2, 9, "x"), (11, 0, 1, 2, "x"), (2, 0, 1, 9, "3 mm"), (6, 1, 1, 9, "")):
            sketch.add_constraint(*row)
        constraints = ("constraint 0 0 1 0 0  5 ", "constraint 1 17 1 2 0", "constraint 2 11 0 1 2", "constraint 3 2 0 1 0 3 mm", "constraint 4 6 1 1 0")
        self.check(sketch, "sketch 1 6", "point 0 -200", "point 3 0", "point 200 7", "line 0 0 1", "line 1 1 2", "line 2 2 0", "disc 0 2  1 +a ",
                   "disc 1 0 2", *constraints, "added 3 2 5", "end")
        sketch.drop_line(0)
        sketch.drop_disc(1)
        sketch.drop_constraint(0)
        sketch.drop_constraint(4)
        sketch.move_point(0, 1, 1)
        self.check(sketch, "sketch 1 6", "point 1 1", "point 3 0", "point 200 7", "line 1 1 2", "line 2 2 0", "disc 0 2  1 +a ", *constraints[1:4],
                   "added 3 2 5", "end")

    def test_numbers_of_what_was_dropped_are_not_used_again(self):
        sketch = sketch_of([(0, 0), (1, 1)], [(0, 1), (1, 0)], [(0, "1"), (1, "2")], [(0, 0, 0, 0, "1"), (17, 0, 1, 0, "")])
        sketch.drop_constraint(1)
        sketch.drop_line(1)
        sketch.drop_line(0)
        sketch.drop_disc(1)
        found = read_sketch(write_sketch(sketch))
        for one in (sketch, found):
            self.assertEqual((one.add_line(1, 0), one.add_disc(0, "1"), one.add_constraint(6, 0, 1, 0, "")), (2, 2, 2))
        self.assertEqual(write_sketch(found), write_sketch(sketch))

    def test_what_was_dropped_counts_for_the_bounds_behind_the_reading(self):
        sketch = sketch_of([(0, 0), (1, 1)], [(0, 1)] * 24, [(0, "1")] * 6, [(0, 0, 0, 0, "1")] * 32)
        for number in range(24):
            sketch.drop_line(number)
        for number in range(6):
            sketch.drop_disc(number)
        for number in range(32):
            sketch.drop_constraint(number)
        self.check(sketch, "sketch 2 0", "point 0 0", "point 1 1", "added 24 6 32", "end")
        found = read_sketch(write_sketch(sketch))
        self.assertEqual(refusal(found.add_line, 0, 1), ("TooMany", "lines"))
        self.assertEqual(refusal(found.add_disc, 0, "1"), ("TooMany", "discs"))
        self.assertEqual(refusal(found.add_constraint, 0, 0, 0, 0, "1"), ("TooMany", "constraints"))

    def test_copies_are_written_alike(self):
        rng = random.Random(40)
        for _ in range(10):
            sketch = random_sketch(rng)
            self.assertEqual(write_sketch(sketch.copy()), write_sketch(sketch))

    def test_what_was_written_has_the_same_further_changes(self):
        rng = random.Random(41)
        for _ in range(80):
            sketch = random_sketch(rng)
            found = read_sketch(write_sketch(sketch))
            self.assertEqual(seen_sketch(found), seen_sketch(sketch))
            seed = rng.random()
            one, two = random.Random(seed), random.Random(seed)
            for _ in range(40):
                self.assertEqual(change_sketch(sketch, one), change_sketch(found, two))
            self.assertEqual(seen_sketch(found), seen_sketch(sketch))
            self.assertEqual(write_sketch(found), write_sketch(sketch))


class Sketches154(unittest.TestCase):
    """The first wrong line of a text."""

    def check(self, line, *lines):
        text = "\n".join(lines)
        self.assertEqual(sheet_changes.answer(read_sketch, text), line, text[:500])
        wanted = sheet_changes.first_wrong_line(text, plain_records.is_sketch_beginning, plain_records.is_sketch_sheet)
        self.assertEqual(wanted, line)

    def test_cut_off_behind_each_line(self):
        rng = random.Random(42)
        for _ in range(30):
            lines = write_sketch(random_sketch(rng)).split("\n")
            for many in range(1, len(lines)):
                self.assertEqual(refusal(read_sketch, "\n".join(lines[:many])), ("InvalidSheet", many + 1))

    def test_changed_sheets(self):
        rng = random.Random(43)
        seen = set()
        for _ in range(20):
            text = write_sketch(random_sketch(rng))
            for changed in sheet_changes.changes(text, rng, 3):
                wanted = sheet_changes.first_wrong_line(changed, plain_records.is_sketch_beginning, plain_records.is_sketch_sheet)
                self.assertEqual(sheet_changes.answer(read_sketch, changed), wanted, changed[:500])
                seen.add(wanted)
                if wanted is None:
                    self.assertEqual(write_sketch(read_sketch(changed)), changed)
        self.assertGreater(len(seen), 10)

    def test_heads_and_points(self):
        for axis, offset in itertools.product(range(-1, 4), range(-1, 8)):
            good = 0 <= axis <= 2 and 0 <= offset <= 6
            self.check(None if good else 1, f"sketch {axis} {offset}", "added 0 0 0", "end")
        for head in ("", "sketch", "sketch 0", "sketch 0 0 0", "sketch 0 0 ", "sketch  0 0", "Sketch 0 0", "sketch 00 0", "values", "solid 2"):
            self.check(1, head, "added 0 0 0", "end")
        self.check(None, "sketch 0 0", "point 200 -200", "point -200 200", "added 0 0 0", "end")
        for line in ("point 201 0", "point 0 201", "point -201 0", "point 0 -201", "point 0", "point 0 0 0", "point 00 0", "point -0 0", "point 0 1.0",
                     "point a 0", "points 0 0", "point 0 0 "):
            self.check(2, "sketch 0 0", line, "added 0 0 0", "end")
        points = ["point 0 0"] * 12
        self.check(None, "sketch 0 0", *points, "added 0 0 0", "end")
        self.check(14, "sketch 0 0", *points, "point 0 0", "added 0 0 0", "end")

    def test_lines(self):
        head = ("sketch 0 0", "point 0 0", "point 1 0", "point 1 1")
        self.check(None, *head, "line 0 0 1", "line 1 2 0", "line 23 1 2", "added 24 0 0", "end")
        for line in ("line 0 0 0", "line 0 0 3", "line 0 3 0", "line 0 -1 0", "line -1 0 1", "line 24 0 1", "line 9999 0 1", "line 0 0", "line 0 0 1 ",
                     "line 0 0 1 2", "line 00 0 1", "line a 0 1"):
            self.check(5, *head, line, "added 1 0 0", "end")
        for one, two in itertools.product(range(4), repeat=2):
            self.check(None if one < two else 6, *head, f"line {one} 0 1", f"line {two} 0 1", "added 5 0 0", "end")
        self.check(2, "sketch 0 0", "line 0 0 1", "point 0 0", "point 1 1", "added 1 0 0", "end")
        self.check(6, *head, "disc 0 0 1", "line 0 0 1", "added 1 1 0", "end")

    def test_discs(self):
        head = ("sketch 0 0", "point 0 0")
        self.check(None, *head, "disc 0 0 1", "disc 5 0  a ", "added 0 6 0", "end")
        for line in ("disc 6 0 1", "disc -1 0 1", "disc 0 1 1", "disc 0 -1 1", "disc 0 0", "disc 0 0 ", "disc 0 0 1 1", "disc 00 0 1", "disc 0 0 mm"):
            self.check(3, *head, line, "added 0 1 0", "end")
        for one, two in itertools.product(range(3), repeat=2):
            self.check(None if one < two else 4, *head, f"disc {one} 0 1", f"disc {two} 0 1", "added 0 3 0", "end")
        self.check(4, *head, "constraint 0 0 0 0 0 1", "disc 0 0 1", "added 0 1 1", "end")

    def test_constraints(self):
        head = ("sketch 0 0", "point 0 0", "point 1 0", "point 1 1", "line 1 0 1", "line 3 1 2")
        for kind in range(-1, 26):
            has_formula, about_lines = kind < 6, kind >= 17
            many = 1 if kind < 2 else 3 if 11 <= kind <= 16 else 2
            good = [3, 1, 0] if about_lines else [2, 1, 2]
            numbers = good[:many] + [0] * (3 - many)
            for at, other in itertools.product(range(3), (-1, 0, 1, 2, 3, 4)):
                told = numbers[:at] + [other] + numbers[at + 1:]
                row = f"constraint 0 {kind} {told[0]} {told[1]} {told[2]}"
                there = (other in (1, 3) if about_lines else 0 <= other <= 2) if at < many else other == 0
                self.check(None if there and 0 <= kind < 24 else 7, *head, row + (" 1" if has_formula else ""), "added 4 0 1", "end")
                self.check(7, *head, row + ("" if has_formula else " 1"), "added 4 0 1", "end")
                self.check(7, *head, row + " ", "added 4 0 1", "end")
        for row in ("constraint 32 0 0 0 0 1", "constraint -1 0 0 0 0 1", "constraint 0 0 0 0 0 1 1", "constraint 0 0 0 0 0 mm", "constraint 0 0 0 0",
                    "constraint 0 6 0 1", "constraint 00 6 0 1 0", "constraint 0 6 0 1 0 ", "constraint 0 06 0 1 0", "constraint 0 6 0 1 00"):
            self.check(7, *head, row, "added 4 0 1", "end")
        for one, two in itertools.product((0, 1, 31), repeat=2):
            self.check(None if one < two else 8, *head, f"constraint {one} 6 0 1 0", f"constraint {two} 0 0 0 0  1", "added 4 0 32", "end")

    def test_counts(self):
        for points, counts in ((0, (0, 0, 0)), (1, (0, 6, 32)), (2, (24, 6, 32)), (12, (24, 6, 32))):
            rows = ["point 0 0"] * points
            for at in range(3):
                for many in (-1, 0, 1, 5, 6, 7, 23, 24, 25, 31, 32, 33, 9999):
                    told = [0, 0, 0]
                    told[at] = many
                    good = 0 <= many <= counts[at]
                    self.check(None if good else points + 2, "sketch 0 0", *rows, f"added {told[0]} {told[1]} {told[2]}", "end")
        head = ("sketch 0 0", "point 0 0", "point 0 1", "line 4 0 1", "disc 2 0 1", "constraint 7 6 0 1 0")
        for lines, discs, constraints in itertools.product((4, 5, 24, 25), (2, 3, 6, 7), (7, 8, 32, 33)):
            good = 5 <= lines <= 24 and 3 <= discs <= 6 and 8 <= constraints <= 32
            self.check(None if good else 7, *head, f"added {lines} {discs} {constraints}", "end")
        for line in ("added 5 3", "added 5 3 8 ", "added 5 3 8 0", "added 05 3 8", "end", ""):
            self.check(7, *head, line, "end")

    def test_ends(self):
        self.check(3, "sketch 0 0", "added 0 0 0")
        for line in ("", "end ", "point 0 0", "added 0 0 0"):
            self.check(3, "sketch 0 0", "added 0 0 0", line)
        self.check(4, "sketch 0 0", "added 0 0 0", "end", "")
        self.check(4, "sketch 0 0", "added 0 0 0", "end", "end")
        self.assertEqual(refusal(read_sketch, ""), ("InvalidSheet", 1))

    def test_the_largest_sketches_are_fast(self):
        text = "+".join(["a"] * 120)
        lines = ["sketch 2 6"] + ["point -200 200"] * 12 + [f"line {k} {k % 12} {(k + 1) % 12}" for k in range(24)]
        lines += [f"disc {k} {k} {text}" for k in range(6)] + [f"constraint {k} 5 0 1 0 {text}" for k in range(32)] + ["added 24 6 32", "end"]
        start = time.perf_counter()
        self.assertEqual(write_sketch(read_sketch("\n".join(lines))), "\n".join(lines))
        self.assertLess(time.perf_counter() - start, 2)


if __name__ == "__main__":
    unittest.main()
