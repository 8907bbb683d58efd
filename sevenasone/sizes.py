"""Sizes: how many trees and things there are of each."""

from sevenasone.checks import is_within
from sevenasone.counts import less
from sevenasone.errors import BadNumber
from sevenasone.forests import forests_with
from sevenasone.rules import check_rule
from sevenasone.stores import boxes_with, check_store
from sevenasone.things import MOST_SIZE


def _check_size(size):
    if not is_within(size, 0, MOST_SIZE):
        raise BadNumber("size")


def trees_of(rule, size):
    """How many trees have this size."""
    check_rule(rule)
    _check_size(size)
    return forests_with(rule, size)[1] if size > 0 else 0


def things_of(rule, store, size):
    """How many things of the store have this size."""
    check_rule(rule)
    check_store(store, "store")
    _check_size(size)
    return sum([boxes_with(store, trees) * many for trees, many in enumerate(forests_with(rule, size))])


def unlike_size(rule, one, other):
    """The least size of which the stores have unlike many things; None for equal stores.

    It is the least number of trees of which they have unlike many boxes: so many trees have so many knots at least.
    """
    check_rule(rule)
    check_store(one, "one")
    check_store(other, "other")
    for trees, boxes in enumerate(less(one.counts, other.counts)):
        if boxes != 0:
            return trees
    return None
