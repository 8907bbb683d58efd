"""Forests: trees in a row, by how many they are and how many knots they have together."""


def more_forests(rule, many):
    """How many rows of 0, 1, .. trees there are with one knot more, from how many there are of those.

    Without the first knot of a row, the parts of it stand in the place of its first tree.
    """
    found = [0] * (len(many) + 1)
    for parts, sorts in enumerate(rule.counts):
        if sorts > 0:
            for others, number in enumerate(many[parts:]):
                found[others + 1] += sorts * number
    return found


def many_of(table, size, trees):
    """How many rows of so many trees have this size together; none has more trees than knots."""
    if size < 0 or trees >= len(table[size]):
        return 0
    return table[size][trees]


def forests_of(rule, table, size, trees):
    """The rows of the knots of so many trees that have this size together, ascending.

    The table has, for each size up to this one, how many rows of 0, 1, .. trees there are.
    """
    if many_of(table, size, trees) == 0:
        return []
    # Only rows that can be gone on with are kept: so a tree is wanted as long as knots are left.
    rows = [((), trees)]
    for left in range(size - 1, -1, -1):
        longer = []
        for row, wanted in rows:
            for knot in rule.knots:
                if many_of(table, left, wanted - 1 + knot[0]) > 0:
                    longer.append(((*row, knot), wanted - 1 + knot[0]))
        rows = longer
    return [row for row, _ in rows]
