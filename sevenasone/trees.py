"""Trees: knots with parts, each of them a tree.

Trees are walked by rows of their knots, each knot ahead of its parts: so no call calls itself, however deep
they are. Such a row tells the trees, as each knot tells how many parts follow.
"""

from sevenasone.checks import is_within
from sevenasone.errors import BadText, BadTree
from sevenasone.rules import check_rule
from sevenasone.texts import items_of


def _is_knot_with_parts(rule, value):
    """Whether the value is a knot of the rule and as many values as it has parts."""
    if not isinstance(value, (list, tuple)) or len(value) < 2:
        return False
    if not is_within(value[0], 0, rule.top) or not is_within(value[1], 0, rule.counts[value[0]] - 1):
        return False
    return len(value) == value[0] + 2


def knots_of(rule, values):
    """The row of the knots of trees; None if one of the values is no tree."""
    knots = []
    waiting = list(values[::-1])
    while len(waiting) > 0:
        value = waiting.pop()
        if not _is_knot_with_parts(rule, value):
            return None
        knots.append((value[0], value[1]))
        waiting.extend(value[:1:-1])
    return knots


def trees_of_knots(knots):
    """The tuple of the trees that a row of knots tells."""
    trees = []
    for parts, kind in reversed(knots):
        start = len(trees) - parts
        below = trees[start:]
        del trees[start:]
        trees.append((parts, kind, *below[::-1]))
    return tuple(trees[::-1])


def knots_text(knots):
    """The text of the trees that a row of knots tells, "" for none."""
    return " ".join([f"{parts}.{kind}" for parts, kind in knots])


def read_knots(rule, items, start, trees):
    """The row of the knots of so many trees, told by the items from start on, and by all of them."""
    known = {f"{parts}.{kind}": (parts, kind) for parts, kind in rule.knots}
    knots = []
    missing = trees
    for index in range(start, len(items)):
        knot = known.get(items[index])
        if missing == 0 or knot is None:
            raise BadText(0, index)
        knots.append(knot)
        missing += knot[0] - 1
    if missing > 0:
        raise BadText(0, len(items))
    return knots


def _checked_knots(rule, tree):
    check_rule(rule)
    knots = knots_of(rule, [tree])
    if knots is None:
        raise BadTree("tree")
    return knots


def is_tree(rule, value):
    """Whether the value is a tree of the rule."""
    check_rule(rule)
    return knots_of(rule, [value]) is not None


def size_of(rule, tree):
    """How many knots the tree has."""
    return len(_checked_knots(rule, tree))


def layers_of(rule, tree):
    """The most knots of the tree that follow one another, each a part of the one ahead."""
    layers = []
    for parts, _ in reversed(_checked_knots(rule, tree)):
        start = len(layers) - parts
        below = layers[start:]
        del layers[start:]
        layers.append(1 + max(below, default=0))
    return layers[0]


def tree_text(rule, tree):
    """The text of the tree: an item for each knot, ahead of those of its parts."""
    return knots_text(_checked_knots(rule, tree))


def read_tree(rule, text):
    """The tree whose text this is."""
    check_rule(rule)
    return trees_of_knots(read_knots(rule, items_of(text), 0, 1))[0]
