"""Whether a table keeps the size of each thing."""

from sevenasone.papers import Denial, Paper
from sevenasone.rows import knots_in, least_filled, told_by
from sevenasone.tables import check_table


class Keeps(Paper):
    """The table keeps the size of each thing."""

    def __init__(self):
        super().__init__("keeps")


class Changes(Denial):
    """A thing whose size the table changes."""

    def __init__(self, thing):
        super().__init__("changes", thing)
        self.thing = self.parts[0]


def keeps_size(table):
    """A Keeps, or the Changes of a thing whose size the table changes.

    The trees in the holes of a pair's patterns stay: so only the knots of both patterns count.
    """
    check_table(table, "table")
    for left, right, _ in table.rows:
        if knots_in(left) != knots_in(right):
            return Changes(told_by(least_filled(left)))
    return Keeps()
