"""Questions about values of any kind."""

from sevenasone.papers import fixed


def is_integer(value):
    """Whether the value is an integer; True and False are none."""
    return isinstance(value, int) and not isinstance(value, bool)


def is_within(value, least, most):
    """Whether the value is an integer from least to most; None is no bound."""
    if not is_integer(value):
        return False
    return (least is None or least <= value) and (most is None or value <= most)


def is_numbers(value):
    """Whether the value is a list or tuple of integers."""
    return isinstance(value, (list, tuple)) and all([is_integer(number) for number in value])


def _flat(value):
    """A row without rows in it that tells the value apart from all others.

    Members of sets are not nested deep. None stands ahead of the items of a tuple and of how many there are.
    """
    if not isinstance(value, tuple):
        return [value]
    row = [None, len(value)]
    for item in value:
        row.extend(_flat(item))
    return row


def first_twice(values):
    """The first of the integers, strings or tuples that equals one ahead of it; None if there is none."""
    seen = set()
    for value in fixed(values):
        key = tuple(_flat(value))
        if key in seen:
            return value
        seen.add(key)
    return None
