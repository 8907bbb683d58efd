"""The chain between two alike stores, written down from the counts that their difference is divided into."""

from sevenasone.alike import alike, check_both
from sevenasone.chains import Chain
from sevenasone.errors import Impossible, TooMany
from sevenasone.idle import check_trees, idle_store, opening_steps, steps_beside_idle
from sevenasone.steps import CLOSES, OPENS, turned_back

MOST_TREES_BETWEEN = 12
MOST_QUOTIENT = 10


def _steps_to_boxes(rule, store, numbers):
    """The steps from the store to it and, for each of the numbers, a box with so many trees and its contrary."""
    steps = steps_beside_idle(rule, store, len(numbers))
    idle = idle_store(rule)
    for number in numbers:
        steps.extend(opening_steps(rule, idle, number))
    return steps


def _steps_between(rule, one, other, quotient):
    """The steps from one to other, which are less each other p - x times the quotient.

    The boxes put beside serve what is more here and less there: the steps that open go first, as they
    bring what the closing ones want. Behind them stands other with the same boxes and contraries.
    """
    opening, closing = [], []
    for place, number in enumerate(quotient):
        opening.extend([(OPENS, place + 1)] * -number)
        closing.extend([(CLOSES, place + 1)] * number)
    steps = opening + closing
    if len(steps) == 0:
        return []
    numbers = [trees for _, trees in steps]
    behind = turned_back(_steps_to_boxes(rule, other, numbers))
    return _steps_to_boxes(rule, one, numbers) + steps + list(behind)


def chain_between(rule, one, other):
    """A chain from the one store to the other."""
    check_both(rule, one, other)
    check_trees(one, MOST_TREES_BETWEEN)
    check_trees(other, MOST_TREES_BETWEEN)
    paper = alike(rule, one, other)
    if not paper:
        raise Impossible(paper)
    if sum([abs(number) for number in paper.quotient]) > MOST_QUOTIENT:
        raise TooMany("quotient", MOST_QUOTIENT)
    return Chain(rule, one, _steps_between(rule, one, other, paper.quotient))
