"""Which patterns have a common one: told for many at once, by the places in which they have knots."""

from sevenasone.rows import HOLE


def _knots_by_place(row, numbers):
    """The pairs of the number of a place and the knot in it, for all knots of a row, its box too.

    The numbers of places are kept in a dict, by the number of the place above and which part of the knot there it is:
    so they are the same for all rows.
    """
    found = []
    waiting = [0]
    for item in row:
        place = waiting.pop()
        if item != HOLE:
            found.append((place, item))
            for part in range(item[0] - 1, -1, -1):
                waiting.append(numbers.setdefault((place, part), len(numbers) + 1))
    return found


def overlapping(rows):
    """For each of these patterns the numbers of those, ascending, with which it has a common one; all by their rows.

    Two patterns have none just if there is a place in which they have unlike knots. So patterns are told as one
    integer, a bit for each: at each place those that have a knot there, and those that have just this one.
    """
    numbers, some_knot, this_knot = {}, {}, {}
    patterns = [_knots_by_place(row, numbers) for row in rows]
    for number, pattern in enumerate(patterns):
        for place, knot in pattern:
            some_knot[place] = some_knot.get(place, 0) | (1 << number)
            this_knot[place, knot] = this_knot.get((place, knot), 0) | (1 << number)
    found = []
    for pattern in patterns:
        unlike = 0
        for place, knot in pattern:
            unlike = unlike | (some_knot[place] ^ this_knot[place, knot])
        found.append([number for number in range(len(rows)) if (unlike >> number) & 1 == 0])
    return found


def overlapping_pairs(rows, others):
    """The pairs of numbers, ascending, of one of these patterns and one of others that have a common one."""
    found = []
    for number, places in enumerate(overlapping(rows + others)[:len(rows)]):
        found.extend([(number, place - len(rows)) for place in places if place >= len(rows)])
    return found
