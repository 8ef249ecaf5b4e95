"""Checking: a checker follows a paper and accepts it, or not.

Papers may consist of tuples, integers, texts and None in any way. So the form of
what is read is asked before it is compared in order or looked up.
"""

from partloft.faces import boundary_of, faces_of, sides_of
from partloft.grains import middle_of
from partloft.naming import names_of
from partloft.tools import are_neighbours, is_in_room, neighbours_of, steps_between, swept, takes

ROWS_OF_FACET = 3


def check_cut(part, radius, stock, paper):
    """The left of the stock if a cut is accepted, otherwise None."""
    if not _is_paper(paper, "cut", 4) or not _is_tour(part.size, paper[1]):
        return None
    tour = paper[1]
    reached = sorted(list({place: True for place in tour}))
    if paper[2] != tuple(reached):
        return None
    steps = steps_between(tour)
    if not _are_blocks(part, radius, _steps_left_out(part.size, reached, steps), paper[3]):
        return None
    taken = swept(part.size, radius, steps)
    return stock.less(taken) if part.common(taken).many() == 0 else None


def check_closed(solid, paper):
    """True if the paper of a closed surface is accepted."""
    if not _is_paper(paper, "closed", 2) or not isinstance(paper[1], tuple):
        return False
    sides = {(grain, facet): sides_of(solid.size, grain, facet) for grain, facet in boundary_of(solid)}
    rows_of = {facet: 0 for facet in sides}
    before = None
    for row in paper[1]:
        if not _is_row(row, sides) or (before is not None and row[:2] <= before):
            return False
        before = row[:2]
        for facet in row[2]:
            rows_of[facet] += 1
    return all([many == ROWS_OF_FACET for many in rows_of.values()])


def check_name(solid, makers, name, paper):
    """True if the paper of a name of a face is accepted."""
    if not _is_paper(paper, "named", 3) or not _is_integer(paper[1]):
        return False
    if paper[2] != tuple([makers[facet] for facet in boundary_of(solid)]):
        return False
    names = names_of(faces_of(solid), makers)
    return 0 <= paper[1] < len(names) and names[paper[1]] == name


def _is_integer(item):
    """True for an integer; True and False are none."""
    return isinstance(item, int) and not isinstance(item, bool)


def _is_tuple_of(item, many):
    return isinstance(item, tuple) and len(item) == many


def _are_integers(item, many):
    """True for a tuple of so many integers."""
    return _is_tuple_of(item, many) and all([_is_integer(one) for one in item])


def _is_paper(paper, word, many):
    """True for a tuple of so many items that begins with a word."""
    return _is_tuple_of(paper, many) and paper[0] == word


def _is_tour(size, tour):
    """True for a tuple of places that goes by steps from the start to the start."""
    start = (0, 0, size)
    if not isinstance(tour, tuple) or not all([_are_integers(place, 3) and is_in_room(size, place) for place in tour]):
        return False
    if tour[:1] != (start,) or tour[-1] != start:
        return False
    return all([are_neighbours(before, place) for before, place in steps_between(tour)])


def _steps_left_out(size, reached, steps):
    """The list of the steps from reached places along which a tour does not go in any direction."""
    gone = {(min(step), max(step)): True for step in steps}
    found = []
    for place in reached:
        for other in neighbours_of(size, place):
            if (min(place, other), max(place, other)) not in gone:
                found.append((place, other))
    return found


def _are_blocks(part, radius, steps, blocks):
    """True if the blocks have, for each of these steps in order, a grain of the part that the tool takes on it."""
    if not _is_tuple_of(blocks, len(steps)):
        return False
    return all([_is_block(part, radius, step, block) for step, block in zip(steps, blocks)])


def _is_block(part, radius, step, block):
    if not _is_tuple_of(block, 3) or block[:2] != step or not _is_integer(block[2]) or not part.has(block[2]):
        return False
    return takes(radius, step[0], step[1], middle_of(part.size, block[2]))


def _is_row(row, sides):
    """True if a row tells a pair of corners and an even number, not 0, of boundary facets that have both."""
    if not _is_tuple_of(row, 3) or not isinstance(row[2], tuple):
        return False
    facets = row[2]
    if len(facets) % 2 != 0 or facets == ():
        return False
    # The sides of a facet have the lesser corner first.
    if not all([_are_integers(facet, 2) and facet in sides and row[:2] in sides[facet] for facet in facets]):
        return False
    return all([facets[at - 1] < facets[at] for at in range(1, len(facets))])
