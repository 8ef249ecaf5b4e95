"""Sheets of solids: written runs of cubes in which a solid has the same grain."""

from partloft.grains import GRAINS_OF_CUBE, grain_at, middle_of
from partloft.lines import SheetReader, numbers_in
from partloft.solids import LARGEST_SIZE, LEAST_SIZE, Solid

FORM = (("solid", False), ("run", True), ("end", False))


def write_solid(solid):
    """The sheet of a solid."""
    lines = [f"solid {solid.size}"]
    for t in range(GRAINS_OF_CUBE):
        for z in range(solid.size):
            for y in range(solid.size):
                for x, many in _runs_of(solid, t, z, y):
                    lines.append(f"run {t} {z} {y} {x} {many}")
    lines.append("end")
    return "\n".join(lines)


def read_solid(text):
    """A new solid from its sheet; raises InvalidSheet."""
    reader = SolidReader()
    reader.read(text)
    return Solid(reader.size, reader.found)


class SolidReader(SheetReader):
    """Reads the lines of the sheet of a solid."""

    def __init__(self):
        super().__init__(FORM)
        self.size = 0
        self.found = []
        # T, Z, Y and X from which on the next run can begin.
        self._free = (0, 0, 0, 0)

    def take(self, word, line):
        """True if a line can stand next."""
        if word == "solid":
            return self._take_size(line.split(" ")[1:])
        if word == "run":
            return self._take_run(line.split(" ")[1:])
        return super().take(word, line)

    def _take_size(self, words):
        numbers = numbers_in(words, 1)
        if numbers is None or not LEAST_SIZE <= numbers[0] <= LARGEST_SIZE:
            return False
        self.size = numbers[0]
        return True

    def _take_run(self, words):
        numbers = numbers_in(words, 5)
        if numbers is None or not self._is_run(numbers):
            return False
        t, z, y, x, many = numbers
        # A longest run has a cube without the grain, or the side of the room, behind it.
        self._free = (t, z, y, x + many + 1)
        self.found.extend([_grain_of(self.size, t, x + k, y, z) for k in range(many)])
        return True

    def _is_run(self, numbers):
        """True if a run lies in the room and behind those before it."""
        t, z, y, x, many = numbers
        if not (0 <= t < GRAINS_OF_CUBE and 0 <= min(x, y, z) and max(x, y, z) < self.size):
            return False
        return 1 <= many <= self.size - x and (t, z, y, x) >= self._free


def _runs_of(solid, t, z, y):
    """The list of the runs (x, many) of one grain along a row of cubes."""
    found = []
    x = 0
    while x < solid.size:
        many = 0
        while x + many < solid.size and solid.has(_grain_of(solid.size, t, x + many, y, z)):
            many += 1
        if many > 0:
            found.append((x, many))
        x += many + 1
    return found


def _grain_of(size, t, x, y, z):
    """The grain with the number t of a cube."""
    dx, dy, dz = middle_of(1, t)
    return grain_at(size, 8 * x + dx, 8 * y + dy, 8 * z + dz)
