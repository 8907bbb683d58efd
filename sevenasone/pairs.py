"""Pairs of patterns with as many holes, and which tree goes where: by them tables turn things.

A pair is kept as the row of its left pattern, the row of its right one, and for each hole of the right one the number
of the hole of the left one whose tree goes there. To see what a pair makes of all things of a pattern, a mark is put
in each of the pattern's holes: a tuple of one number, which is no part of any tree. Marks go where trees would go.
"""

from sevenasone.checks import is_numbers
from sevenasone.rows import HOLE, common_row, holes_in, row_in_box, told_by, told_with, trees_in_holes


def rows_of_pair(rule, one, other, value):
    """The pair of two stores that a value tells, with rows; None for what is none."""
    if not isinstance(value, (list, tuple)) or len(value) != 3:
        return None
    left = row_in_box(rule, one, value[0], True)
    right = row_in_box(rule, other, value[1], True)
    if left is None or right is None or holes_in(left) != holes_in(right):
        return None
    order = value[2]
    if not is_numbers(order) or sorted(order) != list(range(holes_in(left))):
        return None
    return (tuple(left), tuple(right), tuple(order))


def told_pair(pair):
    """The pair with its patterns in tuples."""
    left, right, order = pair
    return (told_by(left), told_by(right), order)


def turned_by(pair, thing):
    """What the pair makes of a thing in tuples; None if it does not fit the left pattern."""
    left, right, order = pair
    trees = trees_in_holes(left, thing)
    return None if trees is None else told_with(right, [trees[hole] for hole in order])


def pair_backwards(pair):
    """The pair that turns back."""
    left, right, order = pair
    back = [0] * len(order)
    for place, hole in enumerate(order):
        back[hole] = place
    return (right, left, tuple(back))


def is_mark(part):
    """Whether a part of a pattern with marks is one."""
    return len(part) == 1


def marked(row):
    """The pattern that a row tells, with a mark in each hole: the number of the hole."""
    return told_with(row, [(hole,) for hole in range(holes_in(row))])


def _unmarked(pattern):
    """The row of a pattern with marks, holes in their places, and the numbers of the marks from left to right."""
    row, marks, waiting = [], [], [pattern]
    while len(waiting) > 0:
        part = waiting.pop()
        if is_mark(part):
            row.append(HOLE)
            marks.append(part[0])
        else:
            row.append(part[:2])
            waiting.extend(part[:1:-1])
    return (row, marks)


def pair_through(first, second):
    """The pair that turns as the first one, then the second one, what goes through both: some things do."""
    both = marked(common_row(first[1], second[0]))
    left, from_left = _unmarked(turned_by(pair_backwards(first), both))
    right, from_right = _unmarked(turned_by(second, both))
    places = {mark: hole for hole, mark in enumerate(from_left)}
    return (left, right, tuple([places[mark] for mark in from_right]))
