"""Rows of knots, by which trees, things and patterns are walked.

A row has the knots of a tree one behind another, each knot ahead of its parts. In the row of a thing or a pattern
its box stands first, just as a knot whose parts are its trees; where a pattern has a hole, the hole stands in the row.
A row tells its tree, as each item tells how many parts follow. So no call calls itself, however deep trees are.
Trees, things and patterns ascend as their rows do.
"""

from sevenasone.checks import is_within
from sevenasone.errors import BadText
from sevenasone.texts import items_of, number_in, number_text

HOLE = ()
HOLE_TEXT = "-"
LEAST_LEAF = (0, 0)


def parts_of(item):
    """How many parts follow this item of a row."""
    return item[0] if item != HOLE else 0


def _is_hole(value):
    return isinstance(value, (list, tuple)) and len(value) == 0


def _is_knot_with_parts(rule, value):
    """Whether the value is a knot of the rule and as many values as it has parts."""
    if not isinstance(value, (list, tuple)) or len(value) < 2:
        return False
    if not is_within(value[0], 0, rule.top) or not is_within(value[1], 0, rule.counts[value[0]] - 1):
        return False
    return len(value) == value[0] + 2


def row_of(rule, values, holes):
    """The rows of trees, or where holes are let, of parts of a pattern, in one; None if one of the values is none."""
    row = []
    waiting = list(values[::-1])
    while len(waiting) > 0:
        value = waiting.pop()
        if holes and _is_hole(value):
            row.append(HOLE)
        elif _is_knot_with_parts(rule, value):
            row.append((value[0], value[1]))
            waiting.extend(value[:1:-1])
        else:
            return None
    return row


def row_in_box(rule, store, value, holes):
    """The row of a thing of the store, or where holes are let, of a pattern; None for what is none."""
    if not isinstance(value, (list, tuple)) or not store.has(value[:2]) or len(value) != value[0] + 2:
        return None
    row = row_of(rule, value[2:], holes)
    return None if row is None else [(value[0], value[1]), *row]


def told_with(row, trees):
    """The tree, thing or pattern that a row tells, with these trees, or other parts, in its holes."""
    coming, told = list(trees), []
    for item in reversed(row):
        if item == HOLE:
            told.append(coming.pop())
        else:
            start = len(told) - item[0]
            below = told[start:]
            del told[start:]
            told.append((*item, *below[::-1]))
    return told[0]


def told_by(row):
    """The tree, thing or pattern that a row tells."""
    return told_with(row, [HOLE] * holes_in(row))


def trees_in_holes(row, thing):
    """The trees in the holes of a pattern, told by its row, in a thing in tuples; None if it does not fit."""
    found, waiting = [], [thing]
    for item in row:
        tree = waiting.pop()
        if item == HOLE:
            found.append(tree)
        elif item == tree[:2]:
            waiting.extend(tree[:1:-1])
        else:
            return None
    return found


def box_alone(box):
    """The row of a box with holes alone."""
    return [box] + [HOLE] * box[0]


def opened_row(row, hole, knot):
    """The row of a pattern with this knot in the hole with this number, and holes for its parts."""
    place = [at for at, item in enumerate(row) if item == HOLE][hole]
    return [*row[:place], knot, *([HOLE] * knot[0]), *row[place + 1:]]


def layers_in(row):
    """The most items of a row that follow one another, each a part of the one ahead; a hole is none."""
    most, waiting = 0, [1]
    for item in row:
        layer = waiting.pop()
        if item != HOLE:
            most = max(most, layer)
            waiting.extend([layer + 1] * item[0])
    return most


def row_text(row):
    """The text of the tree, thing or pattern that a row tells."""
    return " ".join([HOLE_TEXT if item == HOLE else f"{item[0]}.{number_text(item[1])}" for item in row])


def read_row(rule, items, start, trees, holes):
    """The row of so many trees, or parts, told by the items from start on, and by all of them."""
    known = {row_text([knot]): knot for knot in rule.knots}
    if holes:
        known[HOLE_TEXT] = HOLE
    row = []
    missing = trees
    for index in range(start, len(items)):
        item = known.get(items[index])
        if missing == 0 or item is None:
            raise BadText(0, index)
        row.append(item)
        missing += parts_of(item) - 1
    if missing > 0:
        raise BadText(0, len(items))
    return row


def read_in_box(rule, store, text, holes):
    """The thing, or where holes are let, the pattern whose text this is."""
    items = items_of(text)
    trees, _, index = items[0].partition(".")
    box = (number_in(trees), number_in(index))
    if not store.has(box):
        raise BadText(0, 0)
    return told_by([box, *read_row(rule, items, 1, box[0], holes)])


def holes_in(row):
    """How many holes stand in a row."""
    return row.count(HOLE)


def knots_in(row):
    """How many knots stand in the row of a thing or a pattern; its box is none."""
    return len(row) - holes_in(row) - 1


def least_filled(row):
    """The row with the least tree in each hole."""
    return [LEAST_LEAF if item == HOLE else item for item in row]


def end_of(row, start):
    """The place behind the tree, or part, that begins at a place of a row."""
    missing, place = 1, start
    while missing > 0:
        missing += parts_of(row[place]) - 1
        place += 1
    return place


def common_row(one, other):
    """The row that has the knots of two patterns' rows, and nothing else; None if they are unlike in one place."""
    found = []
    place = further = 0
    while place < len(one):
        if one[place] == other[further]:
            end, behind = place + 1, further + 1
            found.append(one[place])
        elif one[place] == HOLE:
            end, behind = place + 1, end_of(other, further)
            found.extend(other[further:behind])
        elif other[further] == HOLE:
            end, behind = end_of(one, place), further + 1
            found.extend(one[place:end])
        else:
            return None
        place, further = end, behind
    return found
