"""Values and sketches as the lines of their sheets tell them (points 152 and 153), without the program's own reading.

A row of lines is a sheet if the parts that it tells can be made by the methods of
the interface, and are written as these very lines.
"""

import functools

from partloft.errors import LoftError
from partloft.sketches import Sketch
from partloft.values import Values


def number(word):
    """The integer that a word is; a ValueError if it is none that a sheet has."""
    if not 0 < len(word) < 5 or str(int(word)) != word:
        raise ValueError
    return int(word)


def check(holds):
    if not holds:
        raise ValueError


class ToldValues:
    def __init__(self):
        self.bases = []
        self.rows = []
        self.own = []
        self.chosen = None

    def text(self):
        lines = ["values"] + [f"configuration {base}" for base in self.bases] + [f"value {name} {text}" for name, text in self.rows]
        names = [name for name, _ in self.rows]
        own = sorted(self.own, key=lambda row: (row[0], names.index(row[1])))
        lines += [f"own {configuration} {name} {text}" for configuration, name, text in own]
        return "\n".join(lines + [f"chosen {self.chosen}", "end"])

    def build(self):
        """The values; each formula that is needed is first given as a number, so that no value ever needs itself on the way."""
        values = Values()
        for base in self.bases:
            values.add_configuration(base)
        for name, _ in self.rows:
            values.define(name, "1")
        for configuration, name, _ in self.own:
            values.define(name, "1", configuration)
        for name, text in self.rows:
            values.define(name, text)
        for configuration, name, text in self.own:
            values.define(name, text, configuration)
        values.choose(self.chosen)
        return values


def told_values(lines):
    told = ToldValues()
    if lines[0] != "values" or lines[-1] != "end":
        raise ValueError
    for line in lines[1:-1]:
        word = line.split(" ")[0]
        if word == "configuration":
            told.bases.append(number(line.split(" ", 1)[1]))
        elif word == "value":
            _, name, text = line.split(" ", 2)
            check(name not in [row[0] for row in told.rows])
            told.rows.append((name, text))
        elif word == "own":
            _, configuration, name, text = line.split(" ", 3)
            check(number(configuration) > 0 and (number(configuration), name) not in [row[:2] for row in told.own])
            told.own.append((number(configuration), name, text))
        elif word == "chosen" and told.chosen is None:
            told.chosen = number(line.split(" ", 1)[1])
        else:
            raise ValueError
    return told


@functools.lru_cache(maxsize=None)
def is_values_sheet(lines):
    try:
        told = told_values(lines)
        if told.chosen is None or told.text() != "\n".join(lines):
            return False
        told.build()
    except (ValueError, IndexError):
        return False
    return True


def is_values_beginning(lines):
    """If lines begin a sheet, they do with the simplest further lines, in which no value needs anything."""
    if is_values_sheet(lines):
        return True
    if lines[-1].startswith("chosen "):
        return is_values_sheet((*lines, "end"))
    names = [line.split(" ")[1] for line in lines if line.startswith("value ")]
    many = sum(line.startswith("configuration ") for line in lines)
    more = []
    if lines[-1].startswith("own "):
        try:
            _, configuration, name, _ = lines[-1].split(" ", 3)
            later = names[names.index(name) + 1:]
            more = [f"own {configuration} {one} 1" for one in later]
            more += [f"own {k} {one} 1" for k in range(number(configuration) + 1, many + 1) for one in names]
        except ValueError:
            return False
    return is_values_sheet((*lines, *more, "chosen 0", "end"))


class ToldSketch:
    def __init__(self):
        self.head = None
        self.points = []
        self.lines = {}
        self.discs = {}
        self.constraints = {}
        self.added = None

    def text(self):
        lines = [f"sketch {self.head[0]} {self.head[1]}"] + [f"point {u} {v}" for u, v in self.points]
        lines += [f"line {k} {self.lines[k][0]} {self.lines[k][1]}" for k in sorted(self.lines)]
        lines += [f"disc {k} {self.discs[k][0]} {self.discs[k][1]}" for k in sorted(self.discs)]
        for k in sorted(self.constraints):
            kind, a, b, c, text = self.constraints[k]
            lines.append(f"constraint {k} {kind} {a} {b} {c}" + (f" {text}" if kind < 6 else ""))
        return "\n".join(lines + [f"added {self.added[0]} {self.added[1]} {self.added[2]}", "end"])

    def build(self):
        """The sketch; numbers that are missing are added and dropped."""
        check(min(self.added) >= 0)
        sketch = Sketch(*self.head)
        for place in self.points:
            sketch.add_point(*place)
        for k in range(self.added[0]):
            check(sketch.add_line(*self.lines.get(k, (0, 1))) == k)
            if k not in self.lines:
                sketch.drop_line(k)
        for k in range(self.added[1]):
            check(sketch.add_disc(*self.discs.get(k, (0, "1"))) == k)
            if k not in self.discs:
                sketch.drop_disc(k)
        for k in range(self.added[2]):
            check(sketch.add_constraint(*self.constraints.get(k, (0, 0, 0, 0, "1"))) == k)
            if k not in self.constraints:
                sketch.drop_constraint(k)
        check(sketch.points() == self.points and sketch.lines() == self.lines and sketch.discs() == self.discs)
        check(sketch.constraints() == self.constraints)
        return sketch


def told_sketch(lines):
    told = ToldSketch()
    if lines[-1] != "end":
        raise ValueError
    for line in lines[:-1]:
        word, *words = line.split(" ")
        if word in ("sketch", "point", "added", "line"):
            numbers = tuple(number(one) for one in words)
            check(len(numbers) == (2 if word in ("sketch", "point") else 3))
        if word == "sketch" and told.head is None:
            told.head = numbers
        elif word == "point":
            told.points.append(numbers)
        elif word == "line":
            check(numbers[0] not in told.lines)
            told.lines[numbers[0]] = numbers[1:]
        elif word == "disc":
            _, k, point, text = line.split(" ", 3)
            check(number(k) not in told.discs)
            told.discs[number(k)] = (number(point), text)
        elif word == "constraint":
            numbers = [number(one) for one in words[:5]]
            check(len(numbers) == 5 and numbers[0] not in told.constraints and (numbers[1] < 6) == (len(words) > 5))
            told.constraints[numbers[0]] = (*numbers[1:], line.split(" ", 6)[6] if numbers[1] < 6 else "")
        elif word == "added" and told.added is None:
            told.added = numbers
        elif word not in ("sketch", "added"):
            raise ValueError
        else:
            raise ValueError
    return told


@functools.lru_cache(maxsize=None)
def is_sketch_sheet(lines):
    try:
        told = told_sketch(lines)
        if told.head is None or told.added is None or told.text() != "\n".join(lines):
            return False
        told.build()
    except (ValueError, IndexError, LoftError):
        return False
    return True


def is_sketch_beginning(lines):
    """If lines begin a sheet, they do so with the least counts of what was added."""
    if is_sketch_sheet(lines) or is_sketch_sheet((*lines, "end")):
        return True
    counts = []
    for word in ("line", "disc", "constraint"):
        numbers = [line.split(" ")[1] for line in lines if line.startswith(word + " ")]
        try:
            counts.append(max((number(one) + 1 for one in numbers), default=0))
        except ValueError:
            return False
    return is_sketch_sheet((*lines, f"added {counts[0]} {counts[1]} {counts[2]}", "end"))
