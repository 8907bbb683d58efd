"""Checks the papers of two tables."""

from sevenasone.rows import row_in_box
from sevenasone.same import Parted, Same, check_two, same


def shows_same(one, other, value):
    """Whether the value is a right Same, or a Parted of any thing that the tables turn into unlike ones."""
    check_two(one, other)
    if type(value) is Same:
        return type(same(one, other)) is Same
    if type(value) is not Parted or row_in_box(one.rule, one.one, value.thing, False) is None:
        return False
    return one.run(value.thing) != other.run(value.thing)
