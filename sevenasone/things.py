"""Things: boxes of a store with trees in them."""

from sevenasone.checks import is_within
from sevenasone.errors import BadNumber, BadText, BadThing, TooMany
from sevenasone.forests import forests_of, more_forests
from sevenasone.rules import check_rule
from sevenasone.stores import boxes_with, check_store
from sevenasone.texts import items_of, number_in, number_text
from sevenasone.trees import knots_of, knots_text, read_knots, trees_of_knots

MOST_SIZE = 200
MOST_THINGS = 400


def _knots_in(rule, store, value):
    """The row of the knots of a thing; None for what is no thing."""
    if not isinstance(value, (list, tuple)) or not store.has(value[:2]) or len(value) != value[0] + 2:
        return None
    return knots_of(rule, value[2:])


def _checked_knots(rule, store, thing):
    knots = _knots_in(rule, store, thing)
    if knots is None:
        raise BadThing("thing")
    return knots


def checked_thing(rule, store, thing):
    """The thing in tuples alone; BadThing for what is none of the store."""
    knots = _checked_knots(rule, store, thing)
    return (thing[0], thing[1], *trees_of_knots(knots))


def is_thing(rule, store, value):
    """Whether the value is a thing of the store by the rule."""
    check_rule(rule)
    check_store(store, "store")
    return _knots_in(rule, store, value) is not None


def thing_size(rule, store, thing):
    """How many knots the trees of the thing have together."""
    check_rule(rule)
    check_store(store, "store")
    return len(_checked_knots(rule, store, thing))


def thing_text(rule, store, thing):
    """The text of the thing: an item for its box, then the texts of its trees."""
    check_rule(rule)
    check_store(store, "store")
    knots = _checked_knots(rule, store, thing)
    box = f"{thing[0]}.{number_text(thing[1])}"
    if len(knots) == 0:
        return box
    return box + " " + knots_text(knots)


def read_thing(rule, store, text):
    """The thing whose text this is."""
    check_rule(rule)
    check_store(store, "store")
    items = items_of(text)
    trees, _, index = items[0].partition(".")
    box = (number_in(trees), number_in(index))
    if not store.has(box):
        raise BadText(0, 0)
    return (*box, *trees_of_knots(read_knots(rule, items, 1, box[0])))


def _forests_to(rule, store, size):
    """For each size up to this one, how many rows of 0, 1, .. trees there are; TooMany for too many things."""
    table = [[1]]
    things = boxes_with(store, 0)
    while things <= MOST_THINGS and len(table) <= size:
        table.append(more_forests(rule, table[-1]))
        things += sum([many * boxes_with(store, trees) for trees, many in enumerate(table[-1])])
    if things > MOST_THINGS:
        raise TooMany("things", MOST_THINGS)
    return table


def things_to(rule, store, size):
    """The tuple of all things of at most this size, the lesser ones first, those of one size ascending."""
    check_rule(rule)
    check_store(store, "store")
    if not is_within(size, 0, MOST_SIZE):
        raise BadNumber("size")
    table = _forests_to(rule, store, size)
    things = []
    for knots in range(size + 1):
        for trees, boxes in enumerate(store.counts):
            # Only where there are boxes are the rows of trees few, and only where there are such rows the boxes.
            rows = forests_of(rule, table, knots, trees) if boxes > 0 else []
            contents = [trees_of_knots(row) for row in rows]
            if len(contents) > 0:
                things.extend([(trees, index, *content) for index in range(boxes) for content in contents])
    return tuple(things)


def shifted(rule, one, other, thing):
    """What a thing of other is in one and other added."""
    check_rule(rule)
    check_store(one, "one")
    check_store(other, "other")
    trees, index, *content = checked_thing(rule, other, thing)
    return (trees, index + boxes_with(one, trees), *content)
