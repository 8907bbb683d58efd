"""Ways: which pattern of a full lot a thing fits, told look by look.

At a pattern come to, the possible patterns of the lot are kept as pairs: the number of one, and a tuple of what stands
in it in the holes of the pattern come to. As the lot is full, there is always one at least.
"""

from sevenasone.checks import is_integer, is_within
from sevenasone.rows import HOLE
from sevenasone.stores import all_boxes


def possible_in(lot, box):
    """The possible patterns of a lot, all in tuples, at this box with holes alone."""
    return [(number, pattern[2:]) for number, pattern in enumerate(lot) if pattern[:2] == box]


def parts_behind(parts, hole, knot):
    """What stands in the holes behind a look that finds this knot in a hole; None if an unlike one stands there."""
    part = parts[hole]
    if part != HOLE and part[:2] != knot:
        return None
    below = (HOLE,) * knot[0] if part == HOLE else part[2:]
    return parts[:hole] + below + parts[hole + 1:]


def possible_behind(possible, hole, knot):
    """The possible patterns behind a look that finds this knot in a hole."""
    behind = [(number, parts_behind(parts, hole, knot)) for number, parts in possible]
    return [(number, parts) for number, parts in behind if parts is not None]


def is_wanted(possible, hole):
    """Whether all possible patterns have a knot in this hole."""
    return all([parts[hole] != HOLE for _, parts in possible])


def wanted_holes(possible):
    """The holes that all possible patterns want, ascending."""
    return [hole for hole in range(len(possible[0][1])) if is_wanted(possible, hole)]


def _is_row(value, length):
    return isinstance(value, (list, tuple)) and len(value) == length


def _is_way(rule, possible, value, idle):
    """Whether any value is a way at the pattern come to; with idle looks only if they are let."""
    if is_integer(value):
        return any([number == value and not any(parts) for number, parts in possible])
    if not _is_row(value, 2) or not _is_row(value[1], len(rule.knots)):
        return False
    hole, ways = value
    if not is_within(hole, 0, len(possible[0][1]) - 1) or not (idle or is_wanted(possible, hole)):
        return False
    return all([_is_way(rule, possible_behind(possible, hole, knot), way, idle) for knot, way in zip(rule.knots, ways)])


def is_reading(rule, store, lot, value, idle):
    """Whether any value is a reading of a full lot of patterns in tuples; with idle looks only if they are let."""
    boxes = all_boxes(store)
    if not _is_row(value, len(boxes)):
        return False
    return all([_is_way(rule, possible_in(lot, box), way, idle) for box, way in zip(boxes, value)])
