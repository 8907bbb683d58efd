"""Checks the papers of lots."""

from sevenasone.checks import is_integer, is_within
from sevenasone.lacking import is_full
from sevenasone.lots import Full, Missed, Twofold, numbers_that_fit, rows_of_lot
from sevenasone.rows import row_in_box, told_by


def shows_full(rule, store, lot, value):
    """Whether the value is a right Full, Twofold or Missed of the lot."""
    rows = rows_of_lot(rule, store, lot)
    if type(value) is Full:
        return is_full(rule, store, rows)
    if type(value) is not Twofold and type(value) is not Missed:
        return False
    row = row_in_box(rule, store, value.thing, False)
    if row is None:
        return False
    numbers = numbers_that_fit(rows, told_by(row))
    if type(value) is Missed:
        return len(numbers) == 0
    if not is_integer(value.one) or not is_within(value.other, value.one + 1, None):
        return False
    return value.one in numbers and value.other in numbers
