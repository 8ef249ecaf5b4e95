"""Cutting: where a tool can go without touching a part, and what it leaves of a stock."""

from partloft.grains import middle_of
from partloft.refusals import NoStep
from partloft.tools import (
    are_neighbours, check_place, check_radius, check_step, ground_of, neighbours_of, passes_over, steps_between, swept,
)


class Cutter:
    """A tool with a radius that must not take any grain of a part."""

    def __init__(self, part, radius):
        check_radius(radius)
        self.part = part
        self.radius = radius
        # How high the part is over x and y of its middles.
        self._summits = _summits_of(part)
        # How high it is under the tool, for the grounds that were asked for.
        self._tops = {}

    def is_free(self, place):
        """True if the tool takes no grain of the part at a place."""
        check_place(self.part.size, place)
        return self._is_clear(place, place)

    def is_free_step(self, place, other):
        """True if the tool takes no grain of the part on a step."""
        check_step(self.part.size, place, other)
        return self._is_clear(place, other)

    def reached(self):
        """The ascending list of the places that are reached from the start by free steps."""
        # The tour comes to each of them, and to no other place.
        return sorted(list({place: True for place in self.tour()}))

    def tour(self):
        """The list of places along every free step between reached places."""
        start = (0, 0, self.part.size)
        found = [start]
        seen = {start: True}
        gone = {}
        # The places on the way back to the start, with the neighbours still to be looked at.
        path = [(start, neighbours_of(self.part.size, start))]
        while path:
            place, ahead = path[-1]
            if not ahead:
                path.pop()
                if path:
                    found.append(path[-1][0])
            else:
                other = ahead.pop(0)
                step = (min(place, other), max(place, other))
                if step not in gone and self._is_clear(place, other):
                    gone[step] = True
                    found.append(other)
                    if other in seen:
                        found.append(place)
                    else:
                        seen[other] = True
                        path.append((other, neighbours_of(self.part.size, other)))
        return found

    def taken(self, places):
        """The solid that the tool takes at places and on the steps from each to the next one."""
        for place in places:
            check_place(self.part.size, place)
        steps = steps_between(places)
        for before, place in steps:
            if not are_neighbours(before, place):
                raise NoStep(before, place)
        return swept(self.part.size, self.radius, [(place, place) for place in places] + steps)

    def left(self, stock):
        """What the tour leaves of a stock."""
        return stock.less(self.taken(self.tour()))

    def gouge(self, places):
        """The first index at which a list of places gouges the part, or None."""
        for place in places:
            check_place(self.part.size, place)
        for at in range(len(places)):
            if not self._is_clear(places[at], places[at]):
                return at
            if at > 0 and not self._is_way(places[at - 1], places[at]):
                return at
        return None

    def _is_way(self, place, other):
        """True if there is a free step between two places."""
        return are_neighbours(place, other) and self._is_clear(place, other)

    def _is_clear(self, place, other):
        """True if the tool takes no grain of the part on a step, or at a place alone."""
        ground = ground_of(place, other)
        if ground not in self._tops:
            one, two = ground
            under = [z for column, z in self._summits.items() if passes_over(self.radius, one, two, column)]
            self._tops[ground] = max(under, default=0)
        return self._tops[ground] <= 8 * min(place[2], other[2])


def _summits_of(part):
    """A dict from x and y of the middles of a part to the greatest z there."""
    summits = {}
    for grain in part.grains():
        x, y, z = middle_of(part.size, grain)
        summits[(x, y)] = max(z, summits.get((x, y), z))
    return summits
