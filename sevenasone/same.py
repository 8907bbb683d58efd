"""Whether two tables do the same to all things."""

from sevenasone.errors import Misfit
from sevenasone.fewer import fewer_pairs
from sevenasone.overlaps import overlapping_pairs
from sevenasone.pairs import is_mark, marked, turned_by
from sevenasone.papers import Denial, Paper
from sevenasone.rows import LEAST_LEAF, common_row, holes_in, told_with
from sevenasone.tables import check_table

# To make pairs fewer takes about as long as to compare so many of them.
MANY_MEETING = 1000


class Same(Paper):
    """Two tables do the same to all things."""

    def __init__(self):
        super().__init__("same")


class Parted(Denial):
    """A thing that two tables turn into unlike ones."""

    def __init__(self, thing):
        super().__init__("parted", thing)
        self.thing = self.parts[0]


def _first_unlike(one, other):
    """The first parts, in one place, in which two unlike patterns with marks have unlike knots or marks."""
    first, second = one, other
    while not is_mark(first) and not is_mark(second) and first[:2] == second[:2]:
        unlike = [pair for pair in zip(first[2:], second[2:]) if pair[0] != pair[1]]
        first, second = unlike[0]
    return (first, second)


def _tree_unlike(rule, knot):
    """A tree with another knot than this one ahead."""
    if knot != LEAST_LEAF:
        return LEAST_LEAF
    return (*rule.knots[-1], *([LEAST_LEAF] * rule.top))


def _shown(rule, row, one, other):
    """A thing of a pattern, told by its row, that shows that what its things become is unlike; told with marks."""
    first, second = _first_unlike(one, other)
    trees = [LEAST_LEAF] * holes_in(row)
    if is_mark(first):
        trees[first[0]] = _tree_unlike(rule, LEAST_LEAF if is_mark(second) else second[:2])
    elif is_mark(second):
        trees[second[0]] = _tree_unlike(rule, first[:2])
    return told_with(row, trees)


def _meeting(pairs, others):
    """The pairs of both whose left patterns have a common one, each with one of the other."""
    numbers = overlapping_pairs([pair[0] for pair in pairs], [pair[0] for pair in others])
    return [(pairs[number], others[place]) for number, place in numbers]


def check_two(one, other):
    """The errors of two tables that do not lead from one store to one store."""
    check_table(one, "one")
    check_table(other, "other")
    if one.rule != other.rule:
        raise Misfit("rules")
    if one.one != other.one or one.other != other.other:
        raise Misfit("stores")


def _thing_parted(rule, meeting):
    """A thing that shows that two pairs that meet do not do the same; None if all do."""
    for pair, another in meeting:
        row = common_row(pair[0], another[0])
        thing = marked(row)
        first, second = turned_by(pair, thing), turned_by(another, thing)
        if first != second:
            return _shown(rule, row, first, second)
    return None


def same(one, other):
    """A Same, or the Parted of a thing that the tables turn into unlike ones."""
    check_two(one, other)
    meeting = _meeting(one.rows, other.rows)
    thing = _thing_parted(one.rule, meeting[:MANY_MEETING])
    if thing is None and len(meeting) > MANY_MEETING:
        meeting = _meeting(fewer_pairs(one.rule, one.rows), fewer_pairs(one.rule, other.rows))
        thing = _thing_parted(one.rule, meeting)
    return Same() if thing is None else Parted(thing)
