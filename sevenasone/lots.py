"""Lots: lists of patterns of one store; whether each thing fits just one of them."""

from sevenasone.errors import BadLot, TooMany
from sevenasone.lacking import is_full, least_missed, least_twofold, weigh_all
from sevenasone.overlaps import overlapping_pairs
from sevenasone.papers import Denial, Paper
from sevenasone.patterns import MOST_PATTERNS
from sevenasone.rows import common_row, holes_in, row_in_box, told_by, trees_in_holes
from sevenasone.rules import check_rule
from sevenasone.stores import check_store


class Full(Paper):
    """Each thing fits just one pattern of the lot."""

    def __init__(self):
        super().__init__("full")


class Twofold(Denial):
    """A thing, and the numbers of two patterns that it fits, the lesser one first."""

    def __init__(self, thing, one, other):
        super().__init__("twofold", thing, one, other)
        self.thing, self.one, self.other = self.parts


class Missed(Denial):
    """A thing that fits no pattern of the lot."""

    def __init__(self, thing):
        super().__init__("missed", thing)
        self.thing = self.parts[0]


def _rows_of(rule, store, lot, name):
    """The rows of the patterns of a lot; BadLot for what is none."""
    if not isinstance(lot, (list, tuple)):
        raise BadLot(name)
    rows = [row_in_box(rule, store, pattern, True) for pattern in lot]
    if any([row is None for row in rows]):
        raise BadLot(name)
    return rows


def _check_most(patterns):
    if len(patterns) > MOST_PATTERNS:
        raise TooMany("patterns", MOST_PATTERNS)


def rows_of_lot(rule, store, lot):
    """The rows of the patterns of a lot, with the errors of rule, store and lot."""
    check_rule(rule)
    check_store(store, "store")
    rows = _rows_of(rule, store, lot, "lot")
    _check_most(rows)
    return rows


def numbers_that_fit(rows, thing):
    """The numbers of the patterns, told by their rows, that a thing in tuples fits, ascending."""
    return [number for number, row in enumerate(rows) if trees_in_holes(row, thing) is not None]


def full(rule, store, lot):
    """Whether the lot is full: a Full, or the least thing that shows why not."""
    rows = rows_of_lot(rule, store, lot)
    twice = least_twofold(rows)
    if twice is not None:
        thing = told_by(twice)
        numbers = numbers_that_fit(rows, thing)
        return Twofold(thing, numbers[0], numbers[1])
    if weigh_all(rule, store, rows):
        return Full()
    return Missed(told_by(least_missed(rule, store, rows)))


def finer(rule, store, one, other):
    """The ascending tuple of all common patterns of one of each of two full lots."""
    check_rule(rule)
    check_store(store, "store")
    rows = _rows_of(rule, store, one, "one")
    further = _rows_of(rule, store, other, "other")
    _check_most(rows)
    _check_most(further)
    if not is_full(rule, store, rows):
        raise BadLot("one")
    if not is_full(rule, store, further):
        raise BadLot("other")
    pairs = overlapping_pairs(rows, further)
    _check_most(pairs)
    return tuple(sorted([told_by(common_row(rows[number], further[place])) for number, place in pairs]))


def hole_counts(rule, store, lot):
    """How many patterns of the lot have 0, 1, .. holes, as counts."""
    holes = [holes_in(row) for row in rows_of_lot(rule, store, lot)]
    counts = [0] * (max(holes, default=-1) + 1)
    for number in holes:
        counts[number] += 1
    return tuple(counts)
