"""Things: boxes of a store with trees in them."""

from sevenasone.checks import is_within
from sevenasone.errors import BadNumber, BadThing, TooMany
from sevenasone.forests import forests_of, forests_with
from sevenasone.rows import read_in_box, row_in_box, row_text, told_by
from sevenasone.rules import check_rule
from sevenasone.stores import boxes_with, check_store

MOST_SIZE = 200
MOST_THINGS = 400


def checked_row(rule, store, thing):
    """The row of a thing; BadThing for what is none of the store."""
    row = row_in_box(rule, store, thing, False)
    if row is None:
        raise BadThing("thing")
    return row


def checked_thing(rule, store, thing):
    """The thing in tuples alone; BadThing for what is none of the store."""
    return told_by(checked_row(rule, store, thing))


def is_thing(rule, store, value):
    """Whether the value is a thing of the store by the rule."""
    check_rule(rule)
    check_store(store, "store")
    return row_in_box(rule, store, value, False) is not None


def thing_size(rule, store, thing):
    """How many knots the trees of the thing have together."""
    check_rule(rule)
    check_store(store, "store")
    return len(checked_row(rule, store, thing)) - 1


def thing_text(rule, store, thing):
    """The text of the thing: an item for its box, then the texts of its trees."""
    check_rule(rule)
    check_store(store, "store")
    return row_text(checked_row(rule, store, thing))


def read_thing(rule, store, text):
    """The thing whose text this is."""
    check_rule(rule)
    check_store(store, "store")
    return read_in_box(rule, store, text, False)


def _forests_to(rule, store, size):
    """For each size up to this one, how many rows of 0, 1, .. trees there are; TooMany for too many things."""
    table = [[1]]
    things = boxes_with(store, 0)
    while things <= MOST_THINGS and len(table) <= size:
        table.append(forests_with(rule, len(table)))
        things += sum([many * boxes_with(store, trees) for trees, many in enumerate(table[-1])])
    if things > MOST_THINGS:
        raise TooMany("things", MOST_THINGS)
    return table


def things_to(rule, store, size):
    """The tuple of all things of at most this size, the lesser ones first, those of one size ascending."""
    check_rule(rule)
    check_store(store, "store")
    if not is_within(size, 0, MOST_SIZE):
        raise BadNumber("size")
    table = _forests_to(rule, store, size)
    things = []
    for knots in range(size + 1):
        for trees, boxes in enumerate(store.counts):
            # Only where there are boxes are the rows of trees few, and only where there are such rows the boxes.
            rows = forests_of(rule, table, knots, trees) if boxes > 0 else []
            if len(rows) > 0:
                things.extend([told_by([(trees, index), *row]) for index in range(boxes) for row in rows])
    return tuple(things)


def shifted(rule, one, other, thing):
    """What a thing of other is in one and other added."""
    check_rule(rule)
    check_store(one, "one")
    check_store(other, "other")
    trees, index, *content = checked_thing(rule, other, thing)
    return (trees, index + boxes_with(one, trees), *content)
