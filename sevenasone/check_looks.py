"""Checks the papers of looks."""

from sevenasone.looks import Looked, Stuck, looked_lot
from sevenasone.rows import HOLE, row_in_box, told_by
from sevenasone.ways import is_reading, parts_behind, possible_behind, possible_in, wanted_holes


def _possible_at(pattern, lot):
    """The possible patterns at this one, if it is come to without an idle look; None otherwise.

    A hole that all want is wanted by all behind any other look, too: so any one in which the pattern has a knot is
    looked at next.
    """
    parts, possible = pattern[2:], possible_in(lot, pattern[:2])
    while any(parts):
        holes = [hole for hole in wanted_holes(possible) if parts[hole] != HOLE]
        if len(holes) == 0:
            return None
        knot = parts[holes[0]][:2]
        possible = possible_behind(possible, holes[0], knot)
        parts = parts_behind(parts, holes[0], knot)
    return possible


def shows_looks(rule, store, lot, value):
    """Whether the value is a Looked of a reading without an idle look, or a right Stuck."""
    patterns = looked_lot(rule, store, lot)
    if type(value) is Looked:
        return is_reading(rule, store, patterns, value.ways, False)
    row = row_in_box(rule, store, value.pattern, True) if type(value) is Stuck else None
    if row is None:
        return False
    possible = _possible_at(told_by(row), patterns)
    return possible is not None and len(possible) > 1 and len(wanted_holes(possible)) == 0
