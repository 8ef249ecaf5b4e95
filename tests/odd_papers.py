"""Papers that were changed in some way, and tuples that are no papers at all (point 125)."""


def deep_tuple(depth):
    item = ()
    for _ in range(depth):
        item = (item,)
    return item


JUNK = (None, "", "cut", "closed", "named", (), -1, 0, 1, 7, 10 ** 6, -10 ** 40, 10 ** 5000, (None,), ("a", 1, 2), (0, 0, 0),
        (0, 0), ((), ()), (1, None, 2), ((0, 0, 0), (1, 1, 1), 0), (0, 1, 2, 3), deep_tuple(5), deep_tuple(300000))

NO_PAPERS = JUNK + tuple((word,) + (item,) * many for word in ("cut", "closed", "named") for many in (0, 1, 2, 3, 4)
                         for item in JUNK[:-1])


def nodes(paper, way=()):
    """The ways to all items of a paper, however deep."""
    yield way
    if isinstance(paper, tuple):
        for at, item in enumerate(paper):
            yield from nodes(item, way + (at,))


def item_at(paper, way):
    for at in way:
        paper = paper[at]
    return paper


def replaced(paper, way, item):
    """The paper with another item at the end of a way."""
    if not way:
        return item
    at = way[0]
    return paper[:at] + (replaced(paper[at], way[1:], item),) + paper[at + 1:]


def changed(paper, rng, ways):
    """The paper with one item exchanged, left out, doubled, turned about or made another number."""
    way = rng.choice(ways)
    item = item_at(paper, way)
    choice = rng.randrange(6)
    if choice == 0 or not way:
        return replaced(paper, way, rng.choice(JUNK))
    if choice == 1:
        return replaced(paper, way, item_at(paper, rng.choice(ways)))
    if choice == 2 and isinstance(item, int):
        return replaced(paper, way, item + rng.choice((-24, -8, -1, 1, 2, 24)))
    if choice == 2 and isinstance(item, tuple):
        return replaced(paper, way, item[::-1])
    row, at = item_at(paper, way[:-1]), way[-1]
    if choice == 3:
        return replaced(paper, way[:-1], row[:at] + row[at + 1:])
    if choice == 4:
        return replaced(paper, way[:-1], row[:at] + (item,) + row[at:])
    other = rng.randrange(len(row))
    swapped = list(row)
    swapped[at], swapped[other] = swapped[other], swapped[at]
    return replaced(paper, way[:-1], tuple(swapped))
