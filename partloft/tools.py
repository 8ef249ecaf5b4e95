"""Tools: straight tools without an upper end, and what they take at places and on steps."""

from partloft.grains import grain_count, middle_of
from partloft.profiles import lies_in_disc
from partloft.refusals import InvalidRadius, NoStep, NoSuchPlace
from partloft.solids import Solid

LEAST_RADIUS = 1
LARGEST_RADIUS = 3

# From a place to its neighbours, in the order in which a tour looks at them.
WAYS_ON = ((-1, 0, 0), (1, 0, 0), (0, -1, 0), (0, 1, 0), (0, 0, -1), (0, 0, 1))


def in_disc(radius, du, dv):
    """True if a point du and dv, in eighths, away from the middle of the tool's disc is in the disc."""
    return lies_in_disc(radius, du, dv)


def taken_at(size, radius, place):
    """The solid that the tool takes at a place."""
    check_radius(radius)
    check_place(size, place)
    return swept(size, radius, [(place, place)])


def taken_on(size, radius, place, other):
    """The solid that the tool takes on a step."""
    check_radius(radius)
    check_step(size, place, other)
    return swept(size, radius, [(place, other)])


def swept(size, radius, steps):
    """The solid that the tool takes on steps; a place alone is told as a step from it to itself."""
    floors = _floors(size, radius, steps)
    found = []
    for grain in range(grain_count(size)):
        x, y, z = middle_of(size, grain)
        if (x, y) in floors and z > floors[(x, y)]:
            found.append(grain)
    return Solid(size, found)


def takes(radius, place, other, middle):
    """True if the tool takes the grain with this middle on a step."""
    return middle[2] > 8 * min(place[2], other[2]) and passes_over(radius, place, other, middle)


def passes_over(radius, place, other, point):
    """True if the disc about some point between two places has x and y of a point in eighths."""
    return in_disc(radius, _beyond(place[0], other[0], point[0]), _beyond(place[1], other[1], point[1]))


def ground_of(place, other):
    """x and y of two places, whatever their order is and however high they lie."""
    one = min(place, other)
    two = max(place, other)
    return (one[:2], two[:2])


def neighbours_of(size, place):
    """The list of the neighbouring places in the room, in the order of a tour."""
    found = []
    for dx, dy, dz in WAYS_ON:
        other = (place[0] + dx, place[1] + dy, place[2] + dz)
        if is_in_room(size, other):
            found.append(other)
    return found


def are_neighbours(place, other):
    """True if there is a step between two places."""
    return sum([abs(place[axis] - other[axis]) for axis in range(3)]) == 1


def steps_between(places):
    """The list of the pairs of a place and the next one."""
    return [(places[at - 1], places[at]) for at in range(1, len(places))]


def is_in_room(size, place):
    """True if the room has a place."""
    return min(place) >= 0 and max(place) <= size


def check_radius(radius):
    """Refuses what no tool has as its radius."""
    if not LEAST_RADIUS <= radius <= LARGEST_RADIUS:
        raise InvalidRadius(radius)


def check_place(size, place):
    """Refuses a place that is not in the room."""
    if not is_in_room(size, place):
        raise NoSuchPlace(place)


def check_step(size, place, other):
    """Refuses a step with a place that is not in the room, or between places that are not neighbours."""
    check_place(size, place)
    check_place(size, other)
    if not are_neighbours(place, other):
        raise NoStep(place, other)


def _beyond(one, other, coordinate):
    """How far a coordinate in eighths is away from the nearest point between two ends."""
    return max(8 * min(one, other) - coordinate, 0, coordinate - 8 * max(one, other))


def _floors(size, radius, steps):
    """A dict from x and y of middles to the lowest z, in eighths, to which the tool comes there."""
    lowest = {}
    for place, other in steps:
        ground = ground_of(place, other)
        z = min(place[2], other[2])
        lowest[ground] = min(z, lowest.get(ground, z))
    columns = {middle_of(size, grain)[:2]: True for grain in range(grain_count(size))}
    floors = {}
    for (one, two), z in lowest.items():
        for column in columns:
            if passes_over(radius, one, two, column):
                floors[column] = min(8 * z, floors.get(column, 8 * z))
    return floors
