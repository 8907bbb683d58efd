"""Forests: trees in a row, by how many they are and how many knots they have together."""


def _rows_by_parts(rule, knots):
    """How many rows of so many knots have 0, 1, .. parts in all, fewer than there are knots.

    They are the numbers of q, the product of so many p. Let p' have at k - 1 the number of p at k, k times, and q' that
    of q; then q' times p is q times p', so many times. So each number of q follows from those ahead of it.
    """
    first = 1
    for _ in range(knots):
        first = first * rule.counts[0]
    numbers = [first]
    for place in range(1, knots):
        total = 0
        for parts in range(1, min(place, rule.top) + 1):
            total += (knots * parts - place + parts) * rule.counts[parts] * numbers[place - parts]
        numbers.append(total // (place * rule.counts[0]))
    return numbers


def forests_with(rule, size):
    """How many rows of 0, 1, .. trees have this size together, as far as there are such.

    Of the turnings of as many knots in a row, which have k parts less than they are, just k are k trees: so there are
    k times as many such rows of knots, divided by how many knots they have.
    """
    if size == 0:
        return [1]
    rows = _rows_by_parts(rule, size)
    return [0] + [trees * rows[size - trees] // size for trees in range(1, size + 1)]


def many_of(table, size, trees):
    """How many rows of so many trees have this size together; none has more trees than knots."""
    if size < 0 or trees >= len(table[size]):
        return 0
    return table[size][trees]


def forests_of(rule, table, size, trees):
    """The rows of the knots of so many trees that have this size together, ascending.

    The table has, for each size up to this one, how many rows of 0, 1, .. trees there are.
    """
    if many_of(table, size, trees) == 0:
        return []
    # Only rows that can be gone on with are kept: so a tree is wanted as long as knots are left.
    rows = [((), trees)]
    for left in range(size - 1, -1, -1):
        longer = []
        for row, wanted in rows:
            for knot in rule.knots:
                if many_of(table, left, wanted - 1 + knot[0]) > 0:
                    longer.append(((*row, knot), wanted - 1 + knot[0]))
        rows = longer
    return [row for row, _ in rows]
