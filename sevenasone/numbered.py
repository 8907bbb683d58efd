"""Things of one size by their numbers, as they ascend."""

from sevenasone.checks import is_within
from sevenasone.errors import BadNumber, TooMany
from sevenasone.forests import forests_with, many_of
from sevenasone.rows import told_by
from sevenasone.rules import check_rule
from sevenasone.stores import check_store
from sevenasone.things import checked_row

MOST_SIZE_NUMBERED = 24


def _table_to(rule, size):
    """For each size up to this one, how many rows of 0, 1, .. trees there are."""
    return [forests_with(rule, knots) for knots in range(size + 1)]


def _box_at(store, many, number):
    """The box of the thing with this number, and the number of the row of its trees.

    Many tells how many rows of 0, 1, .. trees there are. None for a number that is too great.
    """
    for trees, (boxes, rows) in enumerate(zip(store.counts, many)):
        if number < boxes * rows:
            return ((trees, number // rows), number % rows)
        number -= boxes * rows
    return None


def _knot_at(rule, table, left, trees, number):
    """The first knot of the row of so many trees with this number, and the number of what is behind it.

    So many knots are left behind the first one, and the parts of it stand in the place of its tree.
    """
    for knot in rule.knots:
        many = many_of(table, left, trees - 1 + knot[0])
        if number < many:
            return (knot, number)
        number -= many
    return None


def thing_at(rule, store, size, number):
    """The thing with this number among those of its size."""
    check_rule(rule)
    check_store(store, "store")
    if not is_within(size, 0, MOST_SIZE_NUMBERED):
        raise BadNumber("size")
    table = _table_to(rule, size)
    found = _box_at(store, table[size], number) if is_within(number, 0, None) else None
    if found is None:
        raise BadNumber("number")
    box, behind = found
    row, trees = [box], box[0]
    for left in range(size - 1, -1, -1):
        knot, behind = _knot_at(rule, table, left, trees, behind)
        row.append(knot)
        trees += knot[0] - 1
    return told_by(row)


def number_of(rule, store, thing):
    """The number of the thing among those of its size."""
    check_rule(rule)
    check_store(store, "store")
    row = checked_row(rule, store, thing)
    size = len(row) - 1
    if size > MOST_SIZE_NUMBERED:
        raise TooMany("size", MOST_SIZE_NUMBERED)
    table = _table_to(rule, size)
    trees, index = row[0]
    number = index * many_of(table, size, trees)
    number += sum([boxes * many_of(table, size, held) for held, boxes in enumerate(store.counts[:trees])])
    for place, knot in enumerate(row[1:]):
        ahead = [other for other in rule.knots if other < knot]
        number += sum([many_of(table, size - 1 - place, trees - 1 + parts) for parts, _ in ahead])
        trees += knot[0] - 1
    return number
