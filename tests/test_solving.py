"""Points 26 and 30 to 33: equations, solutions, conflicts and redundant constraints."""

import random
import unittest
from fractions import Fraction

from helping import refusal, sketch_of
from partloft.solving import Solution, conflict, equations, is_redundant, solve
from partloft.values import Values

PRIME = 2 ** 89 - 1

# The equations of point 26, each as (left side, right side without w), of the
# points a, b and c, or of du and dv of the lines a and b.
TABLE = {
    0: lambda a, b, c: [(a[0], 0)],
    1: lambda a, b, c: [(a[1], 0)],
    2: lambda a, b, c: [(b[0] - a[0], 0)],
    3: lambda a, b, c: [(b[1] - a[1], 0)],
    4: lambda a, b, c: [(b[1] - b[0] - a[1] + a[0], 0)],
    5: lambda a, b, c: [(b[0] + b[1] - a[0] - a[1], 0)],
    6: lambda a, b, c: [(a[1], b[1])],
    7: lambda a, b, c: [(a[0], b[0])],
    8: lambda a, b, c: [(b[1] - a[1], b[0] - a[0])],
    9: lambda a, b, c: [(b[1] - a[1], a[0] - b[0])],
    10: lambda a, b, c: [(a[0], b[0]), (a[1], b[1])],
    11: lambda a, b, c: [(a[0] + b[0], 2 * c[0]), (a[1] + b[1], 2 * c[1])],
    12: lambda a, b, c: [(a[0] + b[0], 2 * c[0]), (a[1], b[1])],
    13: lambda a, b, c: [(a[0], b[0]), (a[1] + b[1], 2 * c[1])],
    14: lambda a, b, c: [(b[0] - c[0], a[1] - c[1]), (b[1] - c[1], a[0] - c[0])],
    15: lambda a, b, c: [(b[0] - c[0], c[1] - a[1]), (b[1] - c[1], c[0] - a[0])],
    16: lambda a, b, c: [(b[0] - c[0], c[1] - a[1]), (b[1] - c[1], a[0] - c[0])],
    17: lambda a, b, c: [(a[0], b[0])],
    18: lambda a, b, c: [(a[1], b[1])],
    19: lambda a, b, c: [(a[0], b[1])],
    20: lambda a, b, c: [(a[0], -b[1])],
    21: lambda a, b, c: [(a[0], -b[0])],
    22: lambda a, b, c: [(a[1], -b[1])],
    23: lambda a, b, c: [(a[0], b[0]), (a[1], b[1])],
}


def run(line, places):
    first, second = line
    return tuple(places[second][k] - places[first][k] for k in (0, 1))


def rows_by_the_table(sketch, number):
    """The equations of a constraint whose formula is an integer, by the table above."""
    kind, a, b, c, text = sketch.constraints()[number]
    many = len(sketch.points())
    found = []
    for unknown in range(2 * many):
        places = [tuple(int(unknown == 2 * point + k) for k in (0, 1)) for point in range(many)]
        if kind < 17:
            told = TABLE[kind](places[a], places[b], places[c])
        else:
            lines = sketch.lines()
            told = TABLE[kind](run(lines[a], places), run(lines[b], places), None)
        found.append([left - right for left, right in told])
    right = int(text) if kind < 6 else 0
    return [(tuple(row), right) for row in zip(*found)]


def all_rows(sketch, numbers=None):
    if numbers is None:
        numbers = sorted(sketch.constraints())
    return [(*row, right) for number in numbers for row, right in rows_by_the_table(sketch, number)]


def rank(rows):
    """The rank of a matrix of integers, told by a prime that divides none of the small determinants here."""
    rows = [[one % PRIME for one in row] for row in rows]
    many = 0
    for column in range(len(rows[0]) if rows else 0):
        pivot = next((row for row in rows[many:] if row[column] != 0), None)
        if pivot is not None:
            inverse = pow(pivot[column], -1, PRIME)
            rest = [row for row in rows[many:] if row is not pivot]
            for at, row in enumerate(rest):
                if row[column]:
                    times = row[column] * inverse % PRIME
                    rest[at] = [(x - times * y) % PRIME for x, y in zip(row, pivot)]
            rows = rows[:many] + [pivot] + rest
            many += 1
    return many


def holds(rows):
    """True if there are numbers for which all equations hold."""
    return rank([row[:-1] for row in rows]) == rank(rows)


def solved_slowly(sketch):
    """Points 30 and 31 in their own words, for formulas that are integers."""
    rows = all_rows(sketch)
    drawn = [coordinate for place in sketch.points() for coordinate in place]
    if rows and not holds(rows):
        return (2, (), -1)
    taken = 0
    for unknown in range(len(drawn)):
        unit = [int(k == unknown) for k in range(len(drawn))]
        if rank([row[:-1] for row in rows] + [unit]) > rank([row[:-1] for row in rows]):
            taken += 1
            rows.append((*unit, drawn[unknown]))
    numbers = []
    for unknown in range(len(drawn)):
        unit = [int(k == unknown) for k in range(len(drawn))]
        numbers.append(forced(rows, unit))
    told = [(one.numerator, one.denominator) for one in numbers]
    places = tuple((told[k], told[k + 1]) for k in range(0, len(told), 2))
    return (1 if taken else 0, places, taken)


def forced(rows, unit):
    """The number to which equations force an unknown: by Cramer's rule in the form of a null space."""
    many = len(unit)
    matrix = [[Fraction(one) for one in row] for row in rows]
    at = 0
    for column in range(many):
        chosen = next(k for k in range(at, len(matrix)) if matrix[k][column] != 0)
        matrix[at], matrix[chosen] = matrix[chosen], matrix[at]
        matrix[at] = [one / matrix[at][column] for one in matrix[at]]
        for k in range(len(matrix)):
            if k != at and matrix[k][column] != 0:
                matrix[k] = [x - matrix[k][column] * y for x, y in zip(matrix[k], matrix[at])]
        at += 1
    return matrix[unit.index(1)][-1]


def conflict_slowly(sketch):
    left = sorted(sketch.constraints())
    if holds(all_rows(sketch)):
        return []
    for number in sorted(left, reverse=True):
        others = [one for one in left if one != number]
        if others and not holds(all_rows(sketch, others)):
            left = others
    return left


def redundant_slowly(sketch, number):
    before = all_rows(sketch, [one for one in sketch.constraints() if one < number])
    if before and not holds(before):
        return True
    return all(rank(before + [row]) == rank(before) for row in all_rows(sketch, [number]))


def told(solution):
    return (solution.state, solution.places, solution.taken)


def chance_sketch(chance, points, many, spread=5):
    """A sketch with constraints by chance."""
    places = [(chance.randint(-9, 9), chance.randint(-9, 9)) for _ in range(points)]
    lines = [chance.sample(range(points), 2) for _ in range(3)]
    constraints = []
    for _ in range(many):
        kind = chance.randrange(24)
        bound = points if kind < 17 else 3
        parts = [chance.randrange(bound) for _ in range(3)]
        constraints.append((kind, *parts, str(chance.randint(0, spread))))
    return sketch_of(places, lines, constraints=constraints)


class Equations(unittest.TestCase):
    """Point 26, and `equations`."""

    def test_each_kind(self):
        lines = [(0, 1), (2, 1), (3, 0)]
        for kind in range(24):
            text = "7 - 2" if kind < 6 else ""
            for a, b, c in ((0, 1, 2), (2, 0, 1), (1, 2, 0), (0, 0, 1), (0, 1, 0), (1, 1, 1), (2, 2, 2)):
                sketch = sketch_of([(5, 6)] * 4, lines, constraints=[(kind, a, b, c, text)])
                plain = sketch_of([(5, 6)] * 4, lines, constraints=[(kind, a, b, c, "5")])
                found = equations(sketch, Values(), 0)
                self.assertEqual(found, rows_by_the_table(plain, 0), (kind, a, b, c))
                self.assertEqual(len(found), 2 if kind in (10, 11, 12, 13, 14, 15, 16, 23) else 1)

    def test_some_by_hand(self):
        sketch = sketch_of([(0, 0)] * 3, [(0, 1), (2, 1)], constraints=[
            (0, 1, 0, 0, "-4"), (3, 2, 0, 0, "9"), (11, 0, 2, 1, ""), (20, 0, 1, 0, ""), (13, 2, 2, 2, "")])
        values = Values()
        self.assertEqual(equations(sketch, values, 0), [((0, 0, 1, 0, 0, 0), -4)])
        self.assertEqual(equations(sketch, values, 1), [((0, 1, 0, 0, 0, -1), 9)])
        self.assertEqual(equations(sketch, values, 2), [((1, 0, -2, 0, 1, 0), 0), ((0, 1, 0, -2, 0, 1), 0)])
        self.assertEqual(equations(sketch, values, 3), [((-1, 0, 1, 1, 0, -1), 0)])
        self.assertEqual(equations(sketch, values, 4), [((0,) * 6, 0), ((0,) * 6, 0)])

    def test_w_comes_from_the_values(self):
        values = Values()
        values.define("width", "2 cm")
        sketch = sketch_of([(0, 0)], constraints=[(0, 0, 0, 0, "width / 4"), (1, 0, 0, 0, "depth"),
                                                  (1, 0, 0, 0, "width * width"), (1, 0, 0, 0, "201"),
                                                  (1, 0, 0, 0, "-200"), (1, 0, 0, 0, "1 / 2")])
        self.assertEqual(equations(sketch, values, 0), [((1, 0), 5)])
        self.assertEqual(equations(sketch, values, 4), [((0, 1), -200)])
        for number in (1, 2, 3, 5):
            self.assertEqual(refusal(equations, sketch, values, number), ("NotSolved", 3))
        values.define("depth", "-3")
        self.assertEqual(equations(sketch, values, 1), [((0, 1), -3)])

    def test_constraints_that_are_not_there(self):
        sketch = sketch_of([(0, 0)], constraints=[(0, 0, 0, 0, "1 / 2"), (1, 0, 0, 0, "1")])
        sketch.drop_constraint(0)
        for number in (0, 2, -1):
            self.assertEqual(refusal(equations, sketch, Values(), number), ("NoSuchPart", "constraint", number))
        self.assertEqual(equations(sketch, Values(), 1), [((0, 1), 1)])


class Point30(unittest.TestCase):
    """The states 2 and 3."""

    def test_a_formula_without_a_whole_number(self):
        for text in ("1 / 2", "x", "1 / 0", "1 mm * 1 mm", "201", "-201"):
            sketch = sketch_of([(0, 0), (1, 1)], constraints=[(0, 0, 0, 0, "1"), (0, 0, 0, 0, "2"), (0, 0, 0, 0, text)])
            self.assertEqual(told(solve(sketch, Values())), (3, (), -1))
        for text in ("200", "-200", "2 mm", "4 / 2"):
            sketch = sketch_of([(0, 0), (1, 1)], constraints=[(0, 0, 0, 0, text)])
            self.assertEqual(solve(sketch, Values()).state, 1)

    def test_equations_that_cannot_hold(self):
        sketch = sketch_of([(0, 0)], constraints=[(0, 0, 0, 0, "1"), (0, 0, 0, 0, "2")])
        self.assertEqual(told(solve(sketch, Values())), (2, (), -1))
        sketch = sketch_of([(0, 0), (0, 0)], constraints=[(2, 1, 1, 0, "1")])
        self.assertEqual(told(solve(sketch, Values())), (2, (), -1))
        sketch = sketch_of([(0, 0), (0, 0)], constraints=[(2, 1, 1, 0, "0")])
        self.assertEqual(told(solve(sketch, Values())), (1, (((0, 1), (0, 1)), ((0, 1), (0, 1))), 4))

    def test_dropped_constraints_do_not_count(self):
        sketch = sketch_of([(5, 6)], constraints=[(0, 0, 0, 0, "1"), (0, 0, 0, 0, "2"), (0, 0, 0, 0, "x")])
        self.assertEqual(solve(sketch, Values()).state, 3)
        sketch.drop_constraint(2)
        self.assertEqual(solve(sketch, Values()).state, 2)
        sketch.drop_constraint(0)
        self.assertEqual(told(solve(sketch, Values())), (1, (((2, 1), (6, 1)),), 1))

    def test_the_chosen_configuration_counts(self):
        values = Values()
        values.define("x", "1 / 2")
        values.define("x", "7", values.add_configuration(0))
        sketch = sketch_of([(5, 6)], constraints=[(0, 0, 0, 0, "x")])
        self.assertEqual(solve(sketch, values).state, 3)
        values.choose(1)
        self.assertEqual(solve(sketch, values).places, (((7, 1), (6, 1)),))


class Point31(unittest.TestCase):
    """The places."""

    def test_a_solution_keeps_what_it_is_created_with(self):
        solution = Solution(1, (((1, 2), (3, 4)),), 2)
        self.assertEqual(vars(solution), {"state": 1, "places": (((1, 2), (3, 4)),), "taken": 2})

    def test_a_sketch_without_points(self):
        self.assertEqual(told(solve(sketch_of([]), Values())), (0, (), 0))

    def test_without_constraints_all_is_taken(self):
        sketch = sketch_of([(3, -4), (200, -200)])
        self.assertEqual(told(solve(sketch, Values())), (1, (((3, 1), (-4, 1)), ((200, 1), (-200, 1))), 4))

    def test_the_first_unknowns_are_taken(self):
        sketch = sketch_of([(0, 7), (5, 9)], constraints=[(2, 0, 1, 0, "3")])
        self.assertEqual(told(solve(sketch, Values())), (1, (((0, 1), (7, 1)), ((3, 1), (9, 1))), 3))
        sketch = sketch_of([(0, 7), (5, 9)], constraints=[(2, 0, 1, 0, "3"), (5, 0, 1, 0, "4"), (0, 1, 0, 0, "-1")])
        self.assertEqual(told(solve(sketch, Values())), (1, (((-4, 1), (7, 1)), ((-1, 1), (8, 1))), 1))

    def test_equations_that_tell_only_together(self):
        sketch = sketch_of([(10, 20), (30, 40)], constraints=[(8, 0, 1, 0, ""), (9, 0, 1, 0, "")])
        self.assertEqual(told(solve(sketch, Values())), (1, (((10, 1), (20, 1)), ((10, 1), (20, 1))), 2))

    def test_fractions_in_lowest_terms(self):
        middle = sketch_of([(0, 0), (0, 0), (9, 9)], constraints=[
            (0, 0, 0, 0, "1"), (1, 0, 0, 0, "-4"), (0, 1, 0, 0, "-4"), (1, 1, 0, 0, "2"), (11, 0, 1, 2, "")])
        self.assertEqual(told(solve(middle, Values())), (0, (((1, 1), (-4, 1)), ((-4, 1), (2, 1)), ((-3, 2), (-1, 1))), 0))

    def test_halves_of_halves(self):
        constraints = [(0, 0, 0, 0, "0"), (0, 1, 0, 0, "1")] + [(12, 0, k, k + 1, "") for k in range(1, 9)]
        sketch = sketch_of([(5, 5)] * 10, constraints=constraints)
        found = solve(sketch, Values())
        self.assertEqual([place[0] for place in found.places], [(0, 1)] + [(1, 2 ** k) for k in range(9)])
        self.assertEqual((found.state, found.taken), (1, 2))
        # The kind 12 also makes all points but the last one as high as the first one.
        self.assertEqual({place[1] for place in found.places}, {(5, 1)})

    def test_by_chance(self):
        chance = random.Random(31)
        states = {}
        for trial in range(600):
            sketch = chance_sketch(chance, chance.choice((2, 2, 3, 4, 5)), chance.randint(0, 10), trial % 3)
            before = (sketch.points(), sketch.lines(), sketch.constraints())
            found = told(solve(sketch, Values()))
            self.assertEqual(found, solved_slowly(sketch), before)
            self.assertEqual((sketch.points(), sketch.lines(), sketch.constraints()), before)
            states[found[0]] = states.get(found[0], 0) + 1
        self.assertTrue(all(states[state] > 5 for state in (0, 1, 2)), states)

    def test_the_largest_sketches(self):
        sketch = chance_sketch(random.Random(7), 12, 32, 0)
        self.assertEqual(told(solve(sketch, Values())), solved_slowly(sketch))
        sketch = chance_sketch(random.Random(8), 12, 14, 0)
        found = solve(sketch, Values())
        self.assertEqual(told(found), solved_slowly(sketch))
        self.assertEqual((found.state, found.taken > 3), (1, True))


class Point32(unittest.TestCase):
    """The conflict."""

    def test_the_example_of_the_document(self):
        sketch = sketch_of([(0, 0), (3, 0)], constraints=[
            (0, 0, 0, 0, "1"), (7, 0, 1, 0, ""), (1, 1, 0, 0, "2"), (0, 1, 0, 0, "2")])
        self.assertEqual(conflict(sketch, Values()), [0, 1, 3])

    def test_no_conflict(self):
        self.assertEqual(conflict(sketch_of([]), Values()), [])
        self.assertEqual(conflict(sketch_of([(0, 0)], constraints=[(0, 0, 0, 0, "1"), (0, 0, 0, 0, "1")]), Values()), [])

    def test_the_later_ones_are_left_out_first(self):
        one, two = (0, 0, 0, 0, "1"), (0, 0, 0, 0, "2")
        self.assertEqual(conflict(sketch_of([(0, 0)], constraints=[one, two, two, one]), Values()), [0, 1])
        self.assertEqual(conflict(sketch_of([(0, 0)], constraints=[one, one, two, one]), Values()), [0, 2])

    def test_a_constraint_that_alone_cannot_hold(self):
        sketch = sketch_of([(0, 0)], constraints=[(0, 0, 0, 0, "1"), (2, 0, 0, 0, "1"), (0, 0, 0, 0, "2")])
        self.assertEqual(conflict(sketch, Values()), [1])

    def test_the_first_formula_without_a_whole_number(self):
        sketch = sketch_of([(0, 0)], constraints=[
            (0, 0, 0, 0, "1"), (0, 0, 0, 0, "2"), (6, 0, 0, 0, ""), (1, 0, 0, 0, "x"), (1, 0, 0, 0, "1 / 2")])
        self.assertEqual(conflict(sketch, Values()), [3])
        sketch.drop_constraint(3)
        self.assertEqual(conflict(sketch, Values()), [4])
        sketch.drop_constraint(4)
        self.assertEqual(conflict(sketch, Values()), [0, 1])

    def test_by_chance(self):
        chance = random.Random(32)
        lengths = {}
        for trial in range(200):
            sketch = chance_sketch(chance, chance.randint(2, 4), chance.randint(1, 10), 2)
            before = sketch.constraints()
            found = conflict(sketch, Values())
            self.assertEqual(found, conflict_slowly(sketch), before)
            self.assertEqual(sketch.constraints(), before)
            lengths[len(found)] = lengths.get(len(found), 0) + 1
        self.assertTrue(all(lengths[many] > 3 for many in (0, 1, 2, 3, 4)), lengths)


class Point33(unittest.TestCase):
    """Redundant constraints."""

    def test_what_follows_from_those_before(self):
        sketch = sketch_of([(0, 0), (0, 0)], constraints=[
            (0, 0, 0, 0, "1"), (2, 0, 1, 0, "2"), (0, 1, 0, 0, "3"), (10, 0, 1, 0, ""), (1, 0, 0, 0, "1")])
        values = Values()
        found = [is_redundant(sketch, values, number) for number in range(5)]
        # The fourth cannot hold together with those before it, so the fifth holds wherever they do.
        self.assertEqual(found, [False, False, True, False, True])
        self.assertEqual([type(one) for one in found], [bool] * 5)
        self.assertEqual(solve(sketch, values).state, 2)

    def test_both_equations_count(self):
        sketch = sketch_of([(0, 0), (0, 0)], constraints=[(6, 0, 1, 0, ""), (10, 0, 1, 0, ""), (7, 0, 1, 0, "")])
        self.assertEqual([is_redundant(sketch, Values(), number) for number in range(3)], [False, False, True])

    def test_a_constraint_that_always_holds(self):
        sketch = sketch_of([(0, 0)], constraints=[(6, 0, 0, 0, ""), (2, 0, 0, 0, "0"), (2, 0, 0, 0, "1")])
        self.assertEqual([is_redundant(sketch, Values(), number) for number in range(3)], [True, True, False])

    def test_wrong_numbers_and_states(self):
        sketch = sketch_of([(0, 0)], constraints=[(0, 0, 0, 0, "1"), (0, 0, 0, 0, "1"), (1, 0, 0, 0, "1 / 2")])
        for number in (3, -1):
            self.assertEqual(refusal(is_redundant, sketch, Values(), number), ("NoSuchPart", "constraint", number))
        for number in (0, 1, 2):
            self.assertEqual(refusal(is_redundant, sketch, Values(), number), ("NotSolved", 3))
        sketch.drop_constraint(2)
        self.assertEqual(refusal(is_redundant, sketch, Values(), 2), ("NoSuchPart", "constraint", 2))
        self.assertIs(is_redundant(sketch, Values(), 1), True)
        sketch.drop_constraint(0)
        self.assertIs(is_redundant(sketch, Values(), 1), False)

    def test_by_chance(self):
        chance = random.Random(33)
        many = {True: 0, False: 0}
        for trial in range(120):
            sketch = chance_sketch(chance, chance.randint(2, 4), chance.randint(1, 9), 1)
            for number in sketch.constraints():
                found = is_redundant(sketch, Values(), number)
                self.assertIs(found, redundant_slowly(sketch, number))
                many[found] += 1
        self.assertTrue(min(many.values()) > 50, many)


if __name__ == "__main__":
    unittest.main()
