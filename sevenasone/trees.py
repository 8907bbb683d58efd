"""Trees: knots with parts, each of them a tree."""

from sevenasone.errors import BadTree
from sevenasone.rows import layers_in, read_row, row_of, row_text, told_by
from sevenasone.rules import check_rule
from sevenasone.texts import items_of


def _checked_row(rule, tree):
    check_rule(rule)
    row = row_of(rule, [tree], False)
    if row is None:
        raise BadTree("tree")
    return row


def is_tree(rule, value):
    """Whether the value is a tree of the rule."""
    check_rule(rule)
    return row_of(rule, [value], False) is not None


def size_of(rule, tree):
    """How many knots the tree has."""
    return len(_checked_row(rule, tree))


def layers_of(rule, tree):
    """The most knots of the tree that follow one another, each a part of the one ahead."""
    return layers_in(_checked_row(rule, tree))


def tree_text(rule, tree):
    """The text of the tree: an item for each knot, ahead of those of its parts."""
    return row_text(_checked_row(rule, tree))


def read_tree(rule, text):
    """The tree whose text this is."""
    check_rule(rule)
    return told_by(read_row(rule, items_of(text), 0, 1, False))
