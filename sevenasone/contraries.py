"""Contraries: stores that, put to another one, make it alike to the idle store."""

from sevenasone.chains import Chain
from sevenasone.checks import is_within
from sevenasone.counts import less, plus, times
from sevenasone.errors import BadNumber
from sevenasone.idle import MOST_TREES_WANTED, check_trees, idle_store, opening_steps
from sevenasone.rules import check_rule
from sevenasone.stores import Store, check_store, power_of


def contrary(rule, number):
    """A contrary of a box with so many trees, and a chain from the idle store to it and this box."""
    check_rule(rule)
    if not is_within(number, 0, MOST_TREES_WANTED):
        raise BadNumber("number")
    idle = idle_store(rule)
    chain = Chain(rule, idle, opening_steps(rule, idle, number))
    return (Store(less(chain.end.counts, power_of(number).counts)), chain)


def contrary_of(rule, store):
    """An endless contrary of the store."""
    check_rule(rule)
    check_store(store, "store")
    check_trees(store, MOST_TREES_WANTED)
    counts = ()
    for trees, boxes in enumerate(store.counts):
        if boxes > 0:
            counts = plus(counts, times(contrary(rule, trees)[0].counts, (boxes,)))
    found = Store(counts)
    # What is left of an idle store without a box may be finite; one idle store more makes no difference.
    return found if found.is_endless else found.plus(idle_store(rule))
