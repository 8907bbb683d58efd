"""Another way to read lots, by the words of the document: for tests alone."""

import listing


def beneath(part, other):
    """What stands in another pattern, or part, in each hole of this one; None if they are unlike in one place."""
    if part == ():
        return [other]
    if other != () and other[:2] != part[:2]:
        return None
    found = []
    for below, under in zip(part[2:], other[2:] if other != () else ((),) * len(part[2:])):
        more = beneath(below, under)
        if more is None:
            return None
        found += more
    return found


def possible(lot, come_to):
    """The pairs of the number of a possible pattern and what stands in it in each hole."""
    found = [(number, beneath(come_to, pattern)) for number, pattern in enumerate(lot)]
    return [(number, parts) for number, parts in found if parts is not None]


def wanted(lot, come_to):
    """The holes that all possible patterns want."""
    parts = [parts for _, parts in possible(lot, come_to)]
    return [hole for hole in range(listing.holes_of(come_to)) if all(row[hole] != () for row in parts)]


def is_way(counts, lot, come_to, way, idle):
    """Whether this, numbers in tuples in tuples, is a way; with idle looks only if they are let."""
    if isinstance(way, int):
        return any(number == way and not any(parts) for number, parts in possible(lot, come_to))
    if len(way) != 2 or not isinstance(way[0], int) or not isinstance(way[1], tuple):
        return False
    hole, ways = way
    if not 0 <= hole < listing.holes_of(come_to) or not (idle or hole in wanted(lot, come_to)):
        return False
    opened = listing.opened(counts, come_to, hole)
    return len(opened) == len(ways) and all(is_way(counts, lot, one, below, idle) for one, below in zip(opened, ways))


def is_reading(counts, store, lot, ways, idle):
    boxes = listing.boxes_alone(store)
    return len(boxes) == len(ways) and all(is_way(counts, lot, box, way, idle) for box, way in zip(boxes, ways))


def comes_of_openings(counts, lot, come_to):
    """Whether the patterns of a lot that are within this one come of opening it: all ways to do so are gone."""
    lot = [pattern for pattern in lot if beneath(come_to, pattern) is not None]
    if len(lot) == 1:
        return lot[0] == come_to
    return any(all(comes_of_openings(counts, lot, one) for one in listing.opened(counts, come_to, hole))
               for hole in wanted(lot, come_to))


def come_to_without_idle(counts, store, lot):
    """All patterns come to without an idle look."""
    found, waiting = {}, listing.boxes_alone(store)
    while waiting:
        come_to = waiting.pop()
        if come_to not in found:
            found[come_to] = wanted(lot, come_to)
            for hole in found[come_to]:
                waiting += listing.opened(counts, come_to, hole)
    return found


def stuck(counts, store, lot):
    """All patterns at which a reading without an idle look is stuck."""
    come_to = come_to_without_idle(counts, store, lot)
    return {one for one, holes in come_to.items() if not holes and len(possible(lot, one)) > 1}


def led(counts, store, ways, thing):
    """The number to which ways lead a thing, and how many looks it takes."""
    boxes = [box[:2] for box in listing.boxes_alone(store)]
    way, come_to, looks = ways[boxes.index(thing[:2])], thing[:2] + ((),) * thing[0], 0
    while not isinstance(way, int):
        hole, ways = way
        knots = [(m, c) for m, many in enumerate(counts) for c in range(many)]
        knot = listing.in_holes(come_to, thing)[hole][:2]
        way, come_to = ways[knots.index(knot)], listing.opened(counts, come_to, hole)[knots.index(knot)]
        looks += 1
    return way, looks


def some_way(counts, lot, come_to, chosen, more):
    """Any way at the pattern come to, perhaps with idle looks: at the most so many where just one is possible."""
    left = possible(lot, come_to)
    if len(left) == 1 and not any(left[0][1]) and (not more or not listing.holes_of(come_to) or chosen.random() < 0.6):
        return left[0][0]
    if any(map(any, [parts for _, parts in left])):
        holes = [hole for hole in range(listing.holes_of(come_to)) if any(parts[hole] for _, parts in left)]
        if more and chosen.random() < 0.3:
            holes, more = range(listing.holes_of(come_to)), more - 1
    else:
        holes, more = range(listing.holes_of(come_to)), more - 1
    hole = chosen.choice(holes)
    return (hole, tuple(some_way(counts, lot, one, chosen, more) for one in listing.opened(counts, come_to, hole)))


def some_reading(counts, store, lot, chosen, more):
    return tuple(some_way(counts, lot, box, chosen, more) for box in listing.boxes_alone(store))


def with_parts(pattern, parts):
    """The pattern with these parts in its holes, by their numbers."""
    row = [parts.get(hole, ()) for hole in range(listing.holes_of(pattern))]
    return listing.with_trees(pattern, row)


def winding(counts, pattern, chosen):
    """The patterns that a pattern with three holes gives way to, as winding does; by a rule of two knots."""
    leaf, fork = listing.opened(counts, (), 0)
    holes = chosen.sample(range(listing.holes_of(pattern)), 3)
    rows = [(fork, leaf, ()), ((), fork, leaf), (leaf, (), fork), (leaf, leaf, leaf), (fork, fork, fork)]
    return [with_parts(pattern, dict(zip(holes, row))) for row in rows]


def wound_lot(counts, store, often, windings, more, chosen):
    """A lot that comes of openings, then of windings, then of openings again; of a rule of two knots."""
    lot = listing.opened_lot(counts, store, often, chosen)
    for _ in range(windings):
        places = [place for place, pattern in enumerate(lot) if listing.holes_of(pattern) >= 3]
        if places:
            lot += winding(counts, lot.pop(chosen.choice(places)), chosen)
    for _ in range(more):
        places = [place for place, pattern in enumerate(lot) if listing.holes_of(pattern)]
        if places:
            pattern = lot.pop(chosen.choice(places))
            lot += listing.opened(counts, pattern, chosen.randrange(listing.holes_of(pattern)))
    chosen.shuffle(lot)
    return lot
