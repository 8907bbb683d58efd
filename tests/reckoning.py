"""Sums and products of counts, another way: for tests alone."""


def stripped(row):
    row = list(row)
    while row and row[-1] == 0:
        del row[-1]
    return tuple(row)


def added(one, other, factor=1):
    """One, and other so many times."""
    size = max(len(one), len(other))
    one, other = tuple(one) + (0,) * size, tuple(other) + (0,) * size
    return stripped(a + factor * b for a, b in zip(one, other))


def product(*all_counts):
    found = (1,)
    for counts in all_counts:
        row = [0] * (len(found) + len(counts))
        for place, number in enumerate(found):
            for further, factor in enumerate(counts):
                row[place + further] += number * factor
        found = stripped(row)
    return found


def stepped(rule_counts):
    """The counts of p - x."""
    return added(rule_counts, (0, 1), -1)


def left_by(number, counts):
    """The power of x with this number, divided by counts whose top number is 1 or -1: what is left."""
    size = len(counts) - 1
    row = [1] + [0] * (size - 1)
    for _ in range(number):
        top = row.pop() * counts[-1]
        row.insert(0, 0)
        row = [count - top * by for count, by in zip(row, counts)]
    return stripped(row)
