"""Looks: whether a full lot can be read without an idle look; and which pattern a thing fits, by a reading."""

from sevenasone.errors import BadLot, BadPaper, TooMany
from sevenasone.lacking import is_full
from sevenasone.lots import rows_of_lot
from sevenasone.papers import Denial, Paper
from sevenasone.rows import box_alone, knots_in, opened_row, told_by
from sevenasone.stores import all_boxes
from sevenasone.things import checked_thing
from sevenasone.ways import is_reading, parts_behind, possible_behind, possible_in, wanted_holes

MOST_KNOTS = 24


class Looked(Paper):
    """A reading of a lot, with a way for each box, without an idle look."""

    def __init__(self, ways):
        super().__init__("looked", ways)
        self.ways = self.parts[0]


class Stuck(Denial):
    """A pattern come to without an idle look, where several are possible and no hole is wanted by all of them."""

    def __init__(self, pattern):
        super().__init__("stuck", pattern)
        self.pattern = self.parts[0]


def looked_lot(rule, store, lot):
    """The patterns of a full lot that can be looked through, in tuples; with the errors of all."""
    rows = rows_of_lot(rule, store, lot)
    if any([knots_in(row) > MOST_KNOTS for row in rows]):
        raise TooMany("knots", MOST_KNOTS)
    if not is_full(rule, store, rows):
        raise BadLot("lot")
    return [told_by(row) for row in rows]


def _way_at(rule, row, possible):
    """A way without an idle look at the pattern come to, told by its row; or the Stuck of a pattern behind it.

    A hole that all want is wanted by all behind any other look, too: so it does not matter which comes first.
    """
    if len(possible) == 1:
        return possible[0][0]
    wanted = wanted_holes(possible)
    if len(wanted) == 0:
        return Stuck(told_by(row))
    hole, ways = wanted[0], []
    for knot in rule.knots:
        way = _way_at(rule, opened_row(row, hole, knot), possible_behind(possible, hole, knot))
        if type(way) is Stuck:
            return way
        ways.append(way)
    return (hole, tuple(ways))


def looks(rule, store, lot):
    """A Looked with a reading without an idle look, or the Stuck that shows that there is none."""
    patterns = looked_lot(rule, store, lot)
    ways = []
    for box in all_boxes(store):
        way = _way_at(rule, box_alone(box), possible_in(patterns, box))
        if type(way) is Stuck:
            return way
        ways.append(way)
    return Looked(ways)


def number_by(rule, store, lot, ways, thing):
    """The number of the pattern that the thing fits, and how many looks it takes, by a reading."""
    if not is_reading(rule, store, looked_lot(rule, store, lot), ways, True):
        raise BadPaper("ways")
    told = checked_thing(rule, store, thing)
    way, trees = ways[all_boxes(store).index(told[:2])], told[2:]
    number = 0
    while isinstance(way, (list, tuple)):
        hole, below = way
        knot = trees[hole][:2]
        way, trees = below[rule.knots.index(knot)], parts_behind(trees, hole, knot)
        number += 1
    return (way, number)
