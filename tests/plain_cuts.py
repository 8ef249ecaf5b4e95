"""Points 110 to 115 and 127 in plain, slow steps, to compare with: sets of grains, and recursion."""

import functools

from partloft.grains import grain_count, middle_of

TURNS = ((-1, 0, 0), (1, 0, 0), (0, -1, 0), (0, 1, 0), (0, 0, -1), (0, 0, 1))


def disc_has(radius, du, dv):
    """Point 110, in eighths."""
    return abs(du) <= 8 * radius and abs(dv) <= 8 * radius and abs(du) + abs(dv) <= 8 * ((181 * radius + 64) // 128)


def places_of(size):
    return [(x, y, z) for x in range(size + 1) for y in range(size + 1) for z in range(size + 1)]


def neighbours(size, place):
    """In the order of point 113."""
    found = [tuple(a + b for a, b in zip(place, turn)) for turn in TURNS]
    return [other for other in found if min(other) >= 0 and max(other) <= size]


def steps_of(size):
    """All steps of a room, in both directions."""
    return [(place, other) for place in places_of(size) for other in neighbours(size, place)]


@functools.lru_cache(maxsize=None)
def all_middles(size):
    return [(grain, middle_of(size, grain)) for grain in range(grain_count(size))]


@functools.lru_cache(maxsize=None)
def under_disc(size, radius, u, v):
    """Where middles lie in the disc about a point in eighths, seen from above."""
    seen = {middle[:2] for _, middle in all_middles(size)}
    return frozenset((x, y) for x, y in seen if disc_has(radius, x - u, y - v))


@functools.lru_cache(maxsize=None)
def taken(size, radius, place, other=None):
    """The set of the grains that the tool takes at a place, or on a step."""
    other = other or place
    if place[2] != other[2]:
        return taken(size, radius, min(place, other))
    under = set()
    # The nearest point to a middle is one in whole eighths.
    for k in range(9):
        under |= under_disc(size, radius, *[8 * one + k * (two - one) for one, two in zip(place[:2], other[:2])])
    return frozenset(grain for grain, (x, y, z) in all_middles(size) if z > 8 * place[2] and (x, y) in under)


class PlainCutter:
    """What points 112 to 115 say of a part and a radius."""

    def __init__(self, part, radius):
        self.size = part.size
        self.radius = radius
        self.part = set(part.grains())
        self.start = (0, 0, self.size)
        self.reached = self.reach()

    def is_free(self, place, other=None):
        return not taken(self.size, self.radius, place, other) & self.part

    def reach(self):
        found = {self.start}
        waiting = [self.start]
        while waiting:
            place = waiting.pop()
            for other in neighbours(self.size, place):
                if other not in found and self.is_free(place, other):
                    found.add(other)
                    waiting.append(other)
        return found

    def tour(self):
        self.found = [self.start]
        self.seen = {self.start}
        self.gone = set()
        self.go_on(self.start)
        return self.found

    def go_on(self, place):
        for other in neighbours(self.size, place):
            if self.is_free(place, other) and frozenset((place, other)) not in self.gone:
                self.gone.add(frozenset((place, other)))
                self.found.append(other)
                if other not in self.seen:
                    self.seen.add(other)
                    self.go_on(other)
                self.found.append(place)

    def left(self, stock):
        """The grains of a stock that the tool takes at no reached place and on no free step between such."""
        left = set(stock.grains())
        for place in self.reached:
            left -= taken(self.size, self.radius, place)
            for other in neighbours(self.size, place):
                if other in self.reached and self.is_free(place, other):
                    left -= taken(self.size, self.radius, place, other)
        return sorted(left)

    def gouge(self, places):
        for at, place in enumerate(places):
            if not self.is_free(place):
                return at
            before = places[at - 1]
            if at > 0 and (place not in neighbours(self.size, before) or not self.is_free(before, place)):
                return at
        return None


def taken_by(size, radius, places):
    """The grains that a list of places takes."""
    found = set()
    for at, place in enumerate(places):
        found |= taken(size, radius, place)
        if at > 0:
            found |= taken(size, radius, places[at - 1], place)
    return found


def is_place(size, item):
    return isinstance(item, tuple) and len(item) == 3 and all(isinstance(one, int) and 0 <= one <= size for one in item)


def is_accepted(part, radius, paper):
    """Point 127, one condition after the other."""
    size = part.size
    if not isinstance(paper, tuple) or len(paper) != 4 or paper[0] != "cut":
        return False
    _, tour, reached, blocks = paper
    if not all(isinstance(item, tuple) for item in (tour, reached, blocks)) or not tour:
        return False
    if not all(is_place(size, place) for place in tour):
        return False
    steps = list(zip(tour, tour[1:]))
    if tour[0] != (0, 0, size) or tour[-1] != (0, 0, size) or not all(b in neighbours(size, a) for a, b in steps):
        return False
    if list(reached) != sorted(set(tour)):
        return False
    wanted = []
    for place in reached:
        for other in neighbours(size, place):
            if (place, other) not in steps and (other, place) not in steps:
                wanted.append((place, other))
    if len(blocks) != len(wanted):
        return False
    for (place, other), block in zip(wanted, blocks):
        if not isinstance(block, tuple) or len(block) != 3 or block[:2] != (place, other):
            return False
        if not isinstance(block[2], int) or not part.has(block[2]) or block[2] not in taken(size, radius, place, other):
            return False
    return not any(taken(size, radius, place, other) & set(part.grains()) for place, other in steps)
