"""Counts: integers by their places, the last of them not 0."""

from sevenasone.checks import is_numbers, is_within
from sevenasone.errors import BadCounts, BadNumber


def is_counts(value):
    """Whether the value is counts, perhaps none."""
    return is_numbers(value) and (len(value) == 0 or value[-1] != 0)


def _check_counts(value, name):
    if not is_counts(value):
        raise BadCounts(name)


def _without_end(row):
    """The row as counts: without the zeros at its end."""
    end = len(row)
    while end > 0 and row[end - 1] == 0:
        end -= 1
    return tuple(row[:end])


def counts_of(row):
    """The counts that are left of a list of integers without the zeros at its end."""
    if not is_numbers(row):
        raise BadCounts("row")
    return _without_end(row)


def _added(one, other, factor):
    """One, and other so many times."""
    row = list(one) + [0] * (len(other) - len(one))
    for place, number in enumerate(other):
        row[place] += factor * number
    return _without_end(row)


def plus(one, other):
    """The sum of both counts."""
    _check_counts(one, "one")
    _check_counts(other, "other")
    return _added(one, other, 1)


def less(one, other):
    """The counts of one, with those of other taken away."""
    _check_counts(one, "one")
    _check_counts(other, "other")
    return _added(one, other, -1)


def times(one, other):
    """The product of both counts."""
    _check_counts(one, "one")
    _check_counts(other, "other")
    row = [0] * (len(one) + len(other))
    for place, number in enumerate(one):
        for further, factor in enumerate(other):
            row[place + further] += number * factor
    return _without_end(row)


def moved(counts, number):
    """The counts with so many zeros more ahead."""
    _check_counts(counts, "counts")
    if not is_within(number, 0, None):
        raise BadNumber("number")
    # None moved is none, by whatever number: no row of so many zeros is made then.
    if len(counts) == 0:
        return ()
    return (0,) * number + tuple(counts)


def divided(counts, by):
    """The quotient, and what is left of the counts."""
    _check_counts(counts, "counts")
    if not is_counts(by) or len(by) == 0:
        raise BadCounts("by")
    left = list(counts)
    quotient = [0] * (len(counts) - len(by) + 1)
    while len(left) >= len(by) and left[-1] % by[-1] == 0:
        start = len(left) - len(by)
        factor = left[-1] // by[-1]
        quotient[start] = factor
        for place, number in enumerate(by):
            left[start + place] -= factor * number
        while len(left) > 0 and left[-1] == 0:
            left.pop()
    return (_without_end(quotient), tuple(left))
