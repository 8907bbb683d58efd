"""The idle store of a rule, which can be put beside any endless store; and openings until there is a box."""

from sevenasone.chains import Chain
from sevenasone.checks import is_within
from sevenasone.counts import less
from sevenasone.errors import BadNumber, BadStore, TooMany
from sevenasone.rules import check_rule
from sevenasone.steps import OPENS, turned_back
from sevenasone.stores import Store, boxes_with, check_store, power_of

MOST_TREES_PASSED = 30
MOST_TREES_WANTED = 20


def _opened_down(trees, least):
    """The steps that open so many trees and one less each time, down to the least."""
    return [(OPENS, number) for number in range(trees, least - 1, -1)]


def _idle_steps(rule):
    """The steps from X to X and the idle store."""
    if rule.counts[1] > 0:
        return [(OPENS, 1)]
    least = min([parts for parts, _ in rule.knots if parts > 1])
    return [(OPENS, 1)] + _opened_down(least, 2)


def idle_chain(rule):
    """A chain from X to X and the idle store."""
    check_rule(rule)
    return Chain(rule, power_of(1), _idle_steps(rule))


def idle_store(rule):
    """The idle store of the rule."""
    return Store(less(idle_chain(rule).end.counts, power_of(1).counts))


def trees_of_boxes(store):
    """With how many trees, from 1 on, the store has boxes, ascending."""
    return [trees for trees, boxes in enumerate(store.counts) if trees > 0 and boxes > 0]


def steps_beside_idle(rule, store, often):
    """The steps from an endless store to it and so many idle stores."""
    opening = _opened_down(trees_of_boxes(store)[0], 2)
    return opening + _idle_steps(rule) * often + list(turned_back(opening))


def opening_steps(rule, store, number):
    """The steps that open an endless store until it has a box with so many trees."""
    if boxes_with(store, number) > 0:
        return []
    held = trees_of_boxes(store)
    above = [trees for trees in held if trees > number]
    trees = above[0] if len(above) > 0 else held[-1]
    steps = []
    while trees < number:
        steps.append((OPENS, trees))
        trees += rule.top - 1
    return steps + _opened_down(trees, number + 1)


def _check_endless(store):
    check_store(store, "store")
    if not store.is_endless:
        raise BadStore("store")


def check_trees(store, most):
    """TooMany for a store that has a box with more trees."""
    if len(store.counts) > most + 1:
        raise TooMany("trees", most)


def beside_idle(rule, store):
    """A chain from the store to it and the idle store."""
    check_rule(rule)
    _check_endless(store)
    check_trees(store, MOST_TREES_PASSED)
    return Chain(rule, store, steps_beside_idle(rule, store, 1))


def opened_to(rule, store, number):
    """A chain that only opens, from the store to one that has a box with so many trees."""
    check_rule(rule)
    _check_endless(store)
    if not is_within(number, 0, MOST_TREES_WANTED):
        raise BadNumber("number")
    check_trees(store, MOST_TREES_PASSED)
    return Chain(rule, store, opening_steps(rule, store, number))
