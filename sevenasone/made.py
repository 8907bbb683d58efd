"""Tables that are made: the one that does nothing, and the one of a chain."""

from sevenasone.chains import check_chain
from sevenasone.rows import HOLE, box_alone, opened_row, told_by
from sevenasone.rules import check_rule
from sevenasone.steps import OPENS, turned_thing
from sevenasone.stores import all_boxes, boxes_with, check_store
from sevenasone.tables import Table, check_most


def nothing_done(rule, store):
    """The table from the store to itself that leaves each thing as it is."""
    check_rule(rule)
    check_store(store, "store")
    check_most(store.many)
    patterns = [told_by(box_alone(box)) for box in all_boxes(store)]
    return Table(rule, store, store, [(pattern, pattern, tuple(range(len(pattern) - 2))) for pattern in patterns])


def _opened_pair(pair, knot):
    """The pair with this knot in the first hole of the right pattern, which is its first part.

    The left pattern is told by its row, the right one in tuples.
    """
    left, right, order = pair
    hole, parts = order[0], knot[0]
    opened = (*right[:2], (*knot, *([HOLE] * parts)), *right[3:])
    # The hole gives way to the holes of the knot's parts: those behind it are counted on.
    others = [other + parts - 1 if other > hole else other for other in order[1:]]
    return (opened_row(left, hole, knot), opened, (*tuple(range(hole, hole + parts)), *others))


def _pairs_behind(rule, store, step, pairs):
    """The pairs with the table of a step put behind them.

    A pattern that has a knot where the step opens becomes what all its things become; one with a hole there gives way
    to those with each knot in it. A step that closes leaves all knots and holes in their order.
    """
    way, trees = step
    going = (trees, boxes_with(store, trees) - 1)
    found = []
    for pair in pairs:
        split = way == OPENS and pair[1][:2] == going and pair[1][2] == HOLE
        found.extend([_opened_pair(pair, knot) for knot in rule.knots] if split else [pair])
    return [(left, turned_thing(rule, store, step, right), order) for left, right, order in found]


def table_of(chain):
    """The table of a chain."""
    check_chain(chain, "chain")
    check_most(chain.begin.many)
    pairs = [(box_alone(box), told_by(box_alone(box)), tuple(range(box[0]))) for box in all_boxes(chain.begin)]
    for store, step in zip(chain.stores(), chain.steps):
        pairs = _pairs_behind(chain.rule, store, step, pairs)
        # No step makes pairs fewer: so there are too many behind the last one, too.
        check_most(len(pairs))
    return Table(chain.rule, chain.begin, chain.end, [(told_by(left), right, order) for left, right, order in pairs])
