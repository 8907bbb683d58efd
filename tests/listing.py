"""Another way to list trees, things and boxes, and to do steps: by the words of the document, for tests alone."""

import functools
import itertools


@functools.lru_cache(maxsize=None)
def trees_of(counts, size):
    """All trees of a rule with these counts that have this size, in any order."""
    found = []
    for parts, sorts in enumerate(counts):
        for below in rows_of(counts, parts, size - 1):
            found.extend((parts, sort) + below for sort in range(sorts))
    return tuple(found)


@functools.lru_cache(maxsize=None)
def rows_of(counts, many, size):
    """All rows of so many trees that have this size together, in any order."""
    if many == 0:
        return ((),) if size == 0 else ()
    found = []
    for first in range(1, size - many + 2):
        for tree, others in itertools.product(trees_of(counts, first), rows_of(counts, many - 1, size - first)):
            found.append((tree,) + others)
    return tuple(found)


def things_of(counts, store, size):
    """All things of a store with these counts that have this size, ascending."""
    found = []
    for trees, boxes in enumerate(store):
        for row in rows_of(counts, trees, size) if boxes else ():
            found.extend((trees, index) + row for index in range(boxes))
    return sorted(found)


def things_up_to(counts, store, size):
    return [thing for one in range(size + 1) for thing in things_of(counts, store, one)]


def is_tree(counts, value):
    """Whether the value is a tree, as [5] tells it."""
    if type(value) not in (tuple, list) or len(value) < 2:
        return False
    parts, sort = value[:2]
    if type(parts) is not int or type(sort) is not int or not 0 <= parts < len(counts) or not 0 <= sort < counts[parts]:
        return False
    return len(value[2:]) == parts and all(is_tree(counts, part) for part in value[2:])


def size_of(tree):
    return 1 + sum(map(size_of, tree[2:]))


def layers_of(tree):
    return 1 + max(map(layers_of, tree[2:]), default=0)


def listed(value):
    """The value with lists for all tuples."""
    return [listed(part) for part in value] if isinstance(value, tuple) else value


class Boxes:
    """The boxes of a store, each with a name of its own, in rows by how many trees they hold."""

    def __init__(self, counts, store):
        self.counts = counts
        self.names = itertools.count()
        self.rows = {trees: [next(self.names) for _ in range(boxes)] for trees, boxes in enumerate(store)}

    def row(self, trees):
        return self.rows.setdefault(trees, [])

    def store(self):
        """The counts of the store that there is now."""
        most = max((trees for trees, row in self.rows.items() if row), default=-1)
        return tuple(len(self.row(trees)) for trees in range(most + 1))

    def goes(self, step):
        """The rows of the boxes that go: of a step that opens its box, of one that closes those by knots; or None."""
        way, k = step
        if way == 1:
            return self.row(k)[-1:] or None
        if any(len(self.row(k - 1 + m)) < many for m, many in enumerate(self.counts)):
            return None
        return {self.row(k - 1 + m)[len(self.row(k - 1 + m)) - many + c]: (m, c)
                for m, many in enumerate(self.counts) for c in range(many)}

    def do(self, step):
        """Does a step that can be done; returns what turns a thing, told as its box's name and its trees."""
        way, k = step
        going = self.goes(step)
        if way == 1:
            self.row(k).pop()
            came = {}
            for m, many in enumerate(self.counts):
                for c in range(many):
                    came[m, c] = next(self.names)
                    self.row(k - 1 + m).append(came[m, c])
            return lambda name, trees: ((came[trees[0][:2]], trees[0][2:] + trees[1:]) if name == going[0]
                                        else (name, trees))
        for m, many in enumerate(self.counts):
            del self.row(k - 1 + m)[len(self.row(k - 1 + m)) - many:]
        new = next(self.names)
        self.row(k).append(new)

        def turned(name, trees):
            if name not in going:
                return name, trees
            m = going[name][0]
            return new, (going[name] + trees[:m],) + trees[m:]
        return turned

    def named(self, thing):
        return self.row(thing[0])[thing[1]], tuple(thing[2:])

    def told(self, name, trees):
        return (len(trees), self.row(len(trees)).index(name)) + trees


def fits_part(part, tree):
    """Whether a tree fits a part of a pattern, as [9] tells it."""
    if part == ():
        return True
    return part[:2] == tree[:2] and all(map(fits_part, part[2:], tree[2:]))


def fits(pattern, thing):
    return pattern[:2] == thing[:2] and all(map(fits_part, pattern[2:], thing[2:]))


def in_holes(part, tree):
    """The trees in the holes of a part, or of a pattern, from left to right."""
    if part == ():
        return [tree]
    return [found for below, under in zip(part[2:], tree[2:]) for found in in_holes(below, under)]


def with_trees(part, trees):
    """The part, or pattern, with the next trees in its holes."""
    if part == ():
        return trees.pop(0)
    return part[:2] + tuple(with_trees(below, trees) for below in part[2:])


def holes_of(part):
    return 1 if part == () else sum(map(holes_of, part[2:]))


def knots_of(part):
    """How many knots a part has; of a pattern its box, too."""
    return 0 if part == () else 1 + sum(map(knots_of, part[2:]))


def items_of(part):
    """The items of the text of a part, or of a pattern."""
    if part == ():
        return ["-"]
    return [f"{part[0]}.{part[1]}"] + [item for below in part[2:] for item in items_of(below)]


def opened(counts, part, hole):
    """The part, or pattern, with each knot in the hole with this number, ascending."""
    if part == ():
        return [(parts, sort) + ((),) * parts for parts, many in enumerate(counts) for sort in range(many)]
    for place, below in enumerate(part):
        if place >= 2:
            if hole < holes_of(below):
                return [part[:place] + (new,) + part[place + 1:] for new in opened(counts, below, hole)]
            hole -= holes_of(below)
    raise AssertionError("no hole")


@functools.lru_cache(maxsize=None)
def parts_with(counts, knots):
    """All parts with just so many knots."""
    if knots == 0:
        return ((),)
    return tuple((m, c) + row for m, many in enumerate(counts) for c in range(many)
                 for row in part_rows(counts, m, knots - 1))


@functools.lru_cache(maxsize=None)
def part_rows(counts, many, knots):
    """All rows of so many parts with just so many knots together."""
    if many == 0:
        return ((),) if knots == 0 else ()
    return tuple((part,) + row for first in range(knots + 1) for part in parts_with(counts, first)
                 for row in part_rows(counts, many - 1, knots - first))


def patterns_of(counts, store, knots):
    """All patterns of a store with so many knots at most."""
    return [(trees, index) + row for number in range(knots + 1) for trees, boxes in enumerate(store)
            for row in part_rows(counts, trees, number) for index in range(boxes)]


def boxes_alone(store):
    return [(trees, index) + ((),) * trees for trees, boxes in enumerate(store) for index in range(boxes)]


def opened_lot(counts, store, often, chosen):
    """A lot that comes of so many openings of any of its patterns, at any holes, in any order."""
    lot = boxes_alone(store)
    for _ in range(often):
        place = chosen.choice([place for place, pattern in enumerate(lot) if holes_of(pattern)])
        pattern = lot.pop(place)
        lot += opened(counts, pattern, chosen.randrange(holes_of(pattern)))
    chosen.shuffle(lot)
    return lot
