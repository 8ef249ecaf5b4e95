"""Sheets of values and of sketches."""

from partloft.lines import SheetReader, number_of, numbers_in
from partloft.sketches import Sketch
from partloft.values import Formula, Values

VALUES_FORM = (
    ("values", False), ("configuration", True), ("value", True), ("own", True), ("chosen", False), ("end", False),
)

SKETCH_FORM = (
    ("sketch", False), ("point", True), ("line", True), ("disc", True), ("constraint", True), ("added", False),
    ("end", False),
)


def write_values(values):
    """The sheet of values."""
    numbers = range(1, values.configuration_count())
    lines = ["values"]
    lines.extend([f"configuration {values.base(number)}" for number in numbers])
    lines.extend([f"value {name} {text}" for name, text in values.own_texts(0)])
    for number in numbers:
        lines.extend([f"own {number} {name} {text}" for name, text in values.own_texts(number)])
    lines.append(f"chosen {values.chosen()}")
    lines.append("end")
    return "\n".join(lines)


def read_values(text):
    """New values from their sheet; raises InvalidSheet."""
    reader = ValuesReader()
    reader.read(text)
    return reader.table


def write_sketch(sketch):
    """The sheet of a sketch."""
    lines = [f"sketch {sketch.axis()} {sketch.offset()}"]
    lines.extend([f"point {u} {v}" for u, v in sketch.points()])
    ends = sketch.lines()
    lines.extend([f"line {number} {ends[number][0]} {ends[number][1]}" for number in sorted(list(ends))])
    discs = sketch.discs()
    lines.extend([f"disc {number} {discs[number][0]} {discs[number][1]}" for number in sorted(list(discs))])
    rows = sketch.constraints()
    lines.extend([_constraint_line(number, rows[number]) for number in sorted(list(rows))])
    many_lines, many_discs, many_constraints = sketch.added()
    lines.append(f"added {many_lines} {many_discs} {many_constraints}")
    lines.append("end")
    return "\n".join(lines)


def read_sketch(text):
    """A new sketch from its sheet; raises InvalidSheet."""
    reader = SketchReader()
    reader.read(text)
    return reader.drawing


class ValuesReader(SheetReader):
    """Reads the lines of the sheet of values."""

    def __init__(self):
        super().__init__(VALUES_FORM)
        self.table = Values()
        # The configuration of the last own formula, and the index from which on further values can have one there.
        self._next_own = (0, 0)

    def take(self, word, line):
        """True if a line can stand next."""
        if word == "value":
            return self._take_value(line.split(" ", 2))
        if word == "own":
            return self._take_own(line.split(" ", 3))
        if word in ("values", "end"):
            return super().take(word, line)
        numbers = numbers_in(line.split(" ")[1:], 1)
        if numbers is None:
            return False
        if word == "configuration":
            self.table.add_configuration(numbers[0])
            return True
        self.table.choose(numbers[0])
        return self._are_sound(self.table.configuration_count())

    def _take_value(self, words):
        if len(words) != 3 or words[1] in self.table.names():
            return False
        self.table.define(words[1], words[2])
        return True

    def _take_own(self, words):
        names = self.table.names()
        if len(words) != 4 or words[2] not in names:
            return False
        configuration = number_of(words[1])
        index = names.index(words[2])
        if configuration is None or not 1 <= configuration < self.table.configuration_count():
            return False
        if (configuration, index) < self._next_own or not self._are_sound(configuration):
            return False
        self._next_own = (configuration, index + 1)
        self.table.put(words[2], Formula(words[3]), configuration)
        # Later values may still get own formulas by which they need nothing.
        return self.table.is_sound(configuration, index + 1)

    def _are_sound(self, bound):
        """True if no value needs itself in the configurations below a bound; no more lines can change these."""
        many = len(self.table.names())
        return all([self.table.is_sound(number, many) for number in range(self._next_own[0], bound)])


class SketchReader(SheetReader):
    """Reads the lines of the sheet of a sketch."""

    def __init__(self):
        super().__init__(SKETCH_FORM)
        self.drawing = None

    def take(self, word, line):
        """True if a line can stand next."""
        if word == "end":
            return super().take(word, line)
        if word == "disc":
            return self._take_disc(line.split(" ", 3))
        if word == "constraint":
            return self._take_constraint(line)
        numbers = numbers_in(line.split(" ")[1:], 2 if word in ("sketch", "point") else 3)
        if numbers is None:
            return False
        if word == "sketch":
            self.drawing = Sketch(numbers[0], numbers[1])
            return True
        if word == "point":
            self.drawing.add_point(numbers[0], numbers[1])
            return True
        return self._take_line(numbers) if word == "line" else self._take_added(numbers)

    def _take_line(self, numbers):
        number, first, second = numbers
        self._leave_out(number, 0, 0)
        return self.drawing.add_line(first, second) == number

    def _take_disc(self, words):
        numbers = numbers_in(words[1:3], 2)
        if numbers is None or len(words) != 4:
            return False
        self._leave_out(0, numbers[0], 0)
        return self.drawing.add_disc(numbers[1], words[3]) == numbers[0]

    def _take_constraint(self, line):
        words = line.split(" ", 6)
        numbers = numbers_in(words[1:6], 5)
        if numbers is None:
            return False
        number, kind, a, b, c = numbers
        self._leave_out(0, 0, number)
        if self.drawing.add_constraint(kind, a, b, c, words[6] if len(words) == 7 else "") != number:
            return False
        return _constraint_line(number, self.drawing.constraints()[number]) == line

    def _take_added(self, numbers):
        many_lines, many_discs, many_constraints = numbers
        self._leave_out(many_lines, many_discs, many_constraints)
        return self.drawing.added() == (many_lines, many_discs, many_constraints)

    def _leave_out(self, many_lines, many_discs, many_constraints):
        """Adds and drops lines, discs and constraints until at least so many of each were added."""
        sketch = self.drawing
        while sketch.added()[0] < many_lines:
            sketch.drop_line(sketch.add_line(0, 1))
        while sketch.added()[1] < many_discs:
            sketch.drop_disc(sketch.add_disc(0, "0"))
        while sketch.added()[2] < many_constraints:
            sketch.drop_constraint(sketch.add_constraint(0, 0, 0, 0, "0"))


def _constraint_line(number, row):
    """The line of a constraint; one without a formula has no space at its end."""
    kind, a, b, c, text = row
    numbers = f"constraint {number} {kind} {a} {b} {c}"
    return numbers if text == "" else f"{numbers} {text}"
