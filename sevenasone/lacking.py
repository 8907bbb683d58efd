"""What fits no pattern of a lot, or two: told by the rows of the patterns."""

from sevenasone.forests import forests_with, many_of
from sevenasone.overlaps import overlapping
from sevenasone.rows import HOLE, common_row, holes_in, knots_in, least_filled


def least_twofold(rows):
    """The row of the least thing that fits two patterns or more; None if there is none."""
    ranked = sorted([(len(row), least_filled(row), row) for row in rows])
    patterns = [pattern[2] for pattern in ranked]
    best = None
    for index, others in enumerate(overlapping(patterns)):
        # What fits this pattern, or one behind it, is not less than the least thing that fits this one.
        if best is not None and best <= ranked[index][:2]:
            break
        for other in others:
            if other < index:
                both = common_row(patterns[other], patterns[index])
                found = (len(both), least_filled(both))
                best = found if best is None else min(best, found)
    return None if best is None else best[1]


def weigh_all(rule, store, rows):
    """Whether patterns weigh as much as all boxes of the store together.

    Each knot of a pattern divides its weight by how many knots the rule has. To stay with integers, all is multiplied
    by this number, once for each knot of a pattern that has the most.
    """
    knots = [knots_in(row) for row in rows]
    weight, boxes = 0, store.many
    for number in range(max(knots, default=0) + 1):
        if number > 0:
            weight = weight * len(rule.knots)
            boxes = boxes * len(rule.knots)
        weight += knots.count(number)
    return weight == boxes


def is_full(rule, store, rows):
    """Whether each thing of the store fits just one of the patterns."""
    # A full lot weighs as much as its boxes: so most others are known by that alone, which takes less time.
    if not weigh_all(rule, store, rows):
        return False
    return all([numbers == [index] for index, numbers in enumerate(overlapping(rows))])


def _walk(row):
    """A walk over the row of a pattern, as far as its box.

    A walk has for each place what stands there, how many knots come from it on, and how many holes more these make;
    the place come to; and where it goes on: while a hole of it is walked through, only when so many trees are left.
    """
    coming = [(None, 0, 0)]
    for item in row[:0:-1]:
        _, knots, holes = coming[-1]
        coming.append((item, knots, holes) if item == HOLE else (item, knots + 1, holes + item[0] - 1))
    return (coming[::-1], 0, row[0][0])


def _walked_on(walks, trees, knot):
    """The walks behind this knot, of those that it can stand in, with so many trees to come ahead of it."""
    found = []
    for coming, place, start in walks:
        item = coming[place][0]
        if start < trees:
            found.append((coming, place, start))
        elif item == HOLE:
            found.append((coming, place + 1, trees - 1))
        elif item == knot:
            found.append((coming, place + 1, trees - 1 + knot[0]))
    return found


def _many_missed(table, size, trees, walks):
    """How many rows of so many trees of this size fit none of the patterns, of which none fits two."""
    many = many_of(table, size, trees)
    for coming, place, _ in walks:
        _, knots, holes = coming[place]
        many -= many_of(table, size - knots, trees + holes)
    return many


def _table_to_missed(rule, store, rows):
    """For each size up to that of the least thing missed, how many rows of 0, 1, .. trees there are."""
    sizes = [(knots_in(row), holes_in(row)) for row in rows]
    table = [[1]]
    while True:
        size = len(table) - 1
        there = sum([boxes * many_of(table, size, trees) for trees, boxes in enumerate(store.counts)])
        if there > sum([many_of(table, size - knots, holes) for knots, holes in sizes]):
            return table
        table.append(forests_with(rule, len(table)))


def _least_box(store, table, walks):
    """The first box in which a thing of the last size of the table is missed."""
    # Behind as many boxes as have a pattern comes one that has none.
    boxes = [(trees, index) for trees, many in enumerate(store.counts) for index in range(min(many, len(walks) + 1))]
    missing = [box for box in boxes if _many_missed(table, len(table) - 1, box[0], walks.get(box, [])) > 0]
    return missing[0]


def least_missed(rule, store, rows):
    """The row of the least thing that fits none of the patterns.

    No two of them have a common one, and some thing is missed. So what is missed is counted: of each size all things,
    less those that fit a pattern. Then knot by knot the first one is taken with which some thing of the size is missed.
    """
    table = _table_to_missed(rule, store, rows)
    walks = {}
    for row in rows:
        walks.setdefault(row[0], []).append(_walk(row))
    box = _least_box(store, table, walks)
    found, trees, open_walks = [box], box[0], walks.get(box, [])
    for size in range(len(table) - 2, -1, -1):
        for knot in rule.knots:
            further = _walked_on(open_walks, trees, knot)
            if _many_missed(table, size, trees - 1 + knot[0], further) > 0:
                found.append(knot)
                trees, open_walks = trees - 1 + knot[0], further
                break
    return found
