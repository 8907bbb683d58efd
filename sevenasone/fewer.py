"""Fewer pairs that do the same as those of a table: where several of them can be told by one.

Beginning with the boxes alone, a pattern is opened until one pair does for it what the pairs of the table do. For a
pattern come to, each pair that has some of its things is kept as a case: a tuple of what stands in the pattern's
holes, and what it becomes. Where both have a hole, there is a mark of its own.
"""

from sevenasone.pairs import is_mark, marked
from sevenasone.rows import HOLE, box_alone, opened_row, told_with

# More than a pattern has holes, if a full lot of not too many has it.
MOST_MARKS = 1000000
MOST_PARTS = 5
MOST_ASKED = 8


def _are_alike(column):
    """Whether the same knot, or box, stands ahead in all parts of a column; no mark."""
    return not is_mark(column[0]) and all([part[:2] == column[0][:2] for part in column])


def _guessed(cases):
    """The row of what a pattern becomes, and the holes that stand in it, in order: guessed from some cases.

    The row is None if these cases have nothing in common that has each hole once.
    """
    filled, things = [parts for parts, _ in cases], [became for _, became in cases]
    columns = list(zip(*filled))
    # A box may look like a knot: so it is not looked for in the holes.
    alike = _are_alike(things)
    row, order, waiting = [things[0][:2]], [], list(zip(*things))[:1:-1] if alike else []
    while len(waiting) > 0:
        column = waiting.pop()
        if column in columns:
            row.append(HOLE)
            order.append(columns.index(column))
        elif _are_alike(column):
            row.append(column[0][:2])
            waiting.extend(list(zip(*column))[:1:-1])
        else:
            alike = False
    return (row if alike and sorted(order) == list(range(len(columns))) else None, order)


def _first_odd(cases, row, order):
    """The number of the first case that this row and order do not tell; None if they tell all."""
    for number, (parts, became) in enumerate(cases):
        if told_with(row, [parts[hole] for hole in order]) != became:
            return number
    return None


def _with_knot(part, mark, knot):
    """A part with this knot, told with its parts, where the mark stood."""
    if is_mark(part):
        return knot if part == mark else part
    return (*part[:2], *[_with_knot(below, mark, knot) for below in part[2:]])


def _marks_below(mark, many):
    """Marks for the parts of a knot where a mark stood: unlike those below another one, and all from the beginning."""
    return tuple([((mark[0] + MOST_MARKS) * MOST_PARTS + part,) for part in range(many)])


def _opened_cases(cases, hole, knot):
    """The cases of the pattern with this knot in the hole."""
    found = []
    for parts, became in cases:
        part = parts[hole]
        if is_mark(part):
            below = _marks_below(part, knot[0])
            found.append((parts[:hole] + below + parts[hole + 1:], _with_knot(became, part, (*knot, *below))))
        elif part[:2] == knot:
            found.append((parts[:hole] + part[2:] + parts[hole + 1:], became))
    return found


def _hole_to_open(cases, followed):
    """A hole in which the first case has a knot: one that is not followed, if possible; that in which most have one."""
    holes = [hole for hole, part in enumerate(cases[0][0]) if not is_mark(part)]
    others = [hole for hole in holes if hole not in followed]
    # Only marks have the length 1. They are counted so as this is done for many cases, again and again.
    lengths = [[len(part) for part in parts] for parts, _ in cases]
    marks = [column.count(1) for column in zip(*lengths)]
    return min([(marks[hole], hole) for hole in (others if len(others) > 0 else holes)])[1]


def fewer_pairs(rule, pairs):
    """Pairs that do the same as these, in other patterns; just these if they would not be fewer."""
    boxes = {}
    for left, right, order in pairs:
        boxes.setdefault(left[0], []).append((marked(left)[2:], told_with(right, [(hole,) for hole in order])))
    waiting = [(box_alone(box), begun) for box, begun in boxes.items()]
    found = []
    while len(waiting) > 0 and len(waiting) + len(found) < len(pairs):
        row, cases = waiting.pop()
        # Some of the cases, the first one among them, are enough to guess from.
        right, order = _guessed(cases[::1 + len(cases) // MOST_ASKED])
        odd = None if right is None else _first_odd(cases, right, order)
        if right is not None and odd is None:
            found.append((row, right, tuple(order)))
            continue
        if odd is not None:
            # It is asked first from now on, and its knots are opened: so it is soon left alone.
            cases, order = [cases[odd], *cases[:odd], *cases[odd + 1:]], []
        hole = _hole_to_open(cases, order)
        waiting.extend([(opened_row(row, hole, knot), _opened_cases(cases, hole, knot)) for knot in rule.knots])
    return found if len(waiting) == 0 else pairs
