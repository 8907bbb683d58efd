"""Patterns: boxes of a store with parts in them, each a hole, or a knot with parts."""

from sevenasone.checks import is_within
from sevenasone.errors import BadPattern, BadTree, Misfit, NoHole, TooMany
from sevenasone.rows import box_alone, common_row, holes_in, opened_row, read_in_box, row_in_box, row_of, row_text
from sevenasone.rows import told_by, told_with, trees_in_holes
from sevenasone.rules import check_rule
from sevenasone.stores import all_boxes, check_store
from sevenasone.things import checked_thing

MOST_PATTERNS = 400


def _check_both(rule, store):
    check_rule(rule)
    check_store(store, "store")


def _row_of_pattern(rule, store, pattern, name):
    row = row_in_box(rule, store, pattern, True)
    if row is None:
        raise BadPattern(name)
    return row


def is_pattern(rule, store, value):
    """Whether the value is a pattern of the store."""
    _check_both(rule, store)
    return row_in_box(rule, store, value, True) is not None


def holes_of(rule, store, pattern):
    """How many holes the pattern has."""
    _check_both(rule, store)
    return holes_in(_row_of_pattern(rule, store, pattern, "pattern"))


def _trees_in_holes_of(rule, store, pattern, thing):
    """The trees in the holes of the pattern, None if the thing does not fit; with the errors of all."""
    _check_both(rule, store)
    row = _row_of_pattern(rule, store, pattern, "pattern")
    return trees_in_holes(row, checked_thing(rule, store, thing))


def fits(rule, store, pattern, thing):
    """Whether the thing fits the pattern."""
    return _trees_in_holes_of(rule, store, pattern, thing) is not None


def trees_in(rule, store, pattern, thing):
    """The tuple of the trees that stand in the holes of the pattern, in a thing that fits it."""
    trees = _trees_in_holes_of(rule, store, pattern, thing)
    if trees is None:
        raise Misfit("thing")
    return tuple(trees)


def _rows_of_trees(rule, trees):
    """The rows of a list of trees, one for each; None for what is no such list."""
    if not isinstance(trees, (list, tuple)):
        return None
    rows = [row_of(rule, [tree], False) for tree in trees]
    return None if any([row is None for row in rows]) else rows


def filled(rule, store, pattern, trees):
    """The thing with these trees in the holes of the pattern."""
    _check_both(rule, store)
    row = _row_of_pattern(rule, store, pattern, "pattern")
    rows = _rows_of_trees(rule, trees)
    if rows is None:
        raise BadTree("trees")
    if len(rows) != holes_in(row):
        raise Misfit("trees")
    return told_with(row, [told_by(tree) for tree in rows])


def _rows_of_both(rule, store, one, other):
    """The rows of both patterns, with the errors of all four."""
    _check_both(rule, store)
    return (_row_of_pattern(rule, store, one, "one"), _row_of_pattern(rule, store, other, "other"))


def within(rule, store, one, other):
    """Whether each thing that fits one fits other, too."""
    row, further = _rows_of_both(rule, store, one, other)
    return common_row(row, further) == row


def common(rule, store, one, other):
    """The pattern that just those things fit that fit both; None if there is none."""
    row, further = _rows_of_both(rule, store, one, other)
    both = common_row(row, further)
    return None if both is None else told_by(both)


def opened_at(rule, store, pattern, hole):
    """The tuple of the patterns that have a knot in this hole, and holes for its parts: for all knots, ascending."""
    _check_both(rule, store)
    row = _row_of_pattern(rule, store, pattern, "pattern")
    if not is_within(hole, 0, holes_in(row) - 1):
        raise NoHole(hole)
    return tuple([told_by(opened_row(row, hole, knot)) for knot in rule.knots])


def boxes_of(rule, store):
    """The tuple of the store's boxes with holes alone, ascending."""
    _check_both(rule, store)
    if store.many > MOST_PATTERNS:
        raise TooMany("patterns", MOST_PATTERNS)
    return tuple([told_by(box_alone(box)) for box in all_boxes(store)])


def pattern_text(rule, store, pattern):
    """The text of the pattern: an item for its box, then one for each knot and hole."""
    _check_both(rule, store)
    return row_text(_row_of_pattern(rule, store, pattern, "pattern"))


def read_pattern(rule, store, text):
    """The pattern whose text this is."""
    _check_both(rule, store)
    return read_in_box(rule, store, text, True)
