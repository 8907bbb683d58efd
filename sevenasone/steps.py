"""Steps: one layer of trees opened or closed, in a store and in its things."""

from sevenasone.checks import is_integer, is_within
from sevenasone.counts import less, moved, plus
from sevenasone.errors import BadChain, Misfit
from sevenasone.rules import check_rule
from sevenasone.stores import Store, boxes_with, check_store
from sevenasone.things import checked_thing

OPENS = 1
CLOSES = -1


def is_step(value):
    """Whether the value is a step."""
    if not isinstance(value, (list, tuple)) or len(value) != 2:
        return False
    return is_integer(value[0]) and value[0] in (OPENS, CLOSES) and is_within(value[1], 1, None)


def _check_all(rule, store, step):
    check_rule(rule)
    check_store(store, "store")
    if not is_step(step):
        raise BadChain("step")


def can_step(rule, store, step):
    """Whether the store has the boxes that go."""
    _check_all(rule, store, step)
    way, trees = step
    if way == OPENS:
        return boxes_with(store, trees) > 0
    return all([boxes_with(store, trees - 1 + parts) >= sorts for parts, sorts in enumerate(rule.counts)])


def step_store(rule, store, step):
    """The store behind the step."""
    if not can_step(rule, store, step):
        raise Misfit("step")
    way, trees = step
    change = moved(rule.stepped, trees - 1)
    if way == OPENS:
        return Store(plus(store.counts, change))
    return Store(less(store.counts, change))


def _opened(store, trees, thing):
    """What a thing of the store becomes when a box with so many trees is opened."""
    held, index, *content = thing
    if held != trees or index != boxes_with(store, trees) - 1:
        return thing
    parts, kind, *below = content[0]
    # The boxes of knots with one part hold as many trees as the one that has gone.
    staying = boxes_with(store, trees - 1 + parts) - (1 if parts == 1 else 0)
    return (trees - 1 + parts, staying + kind, *below, *content[1:])


def _closed(rule, store, trees, thing):
    """What a thing of the store becomes when boxes are closed to one with so many trees."""
    held, index, *content = thing
    parts = held - (trees - 1)
    sorts = rule.counts[parts] if 0 <= parts <= rule.top else 0
    kind = index - (boxes_with(store, held) - sorts)
    if kind < 0:
        return thing
    return (trees, boxes_with(store, trees) - rule.counts[1], (parts, kind, *content[:parts]), *content[parts:])


def turned_thing(rule, store, step, thing):
    """What a thing of the store becomes, where the step can be done; all are taken as right, the thing in tuples."""
    way, trees = step
    if way == OPENS:
        return _opened(store, trees, thing)
    return _closed(rule, store, trees, thing)


def turned_back(steps):
    """The steps that undo these, in their order."""
    return tuple([(-way, trees) for way, trees in steps[::-1]])


def step_thing(rule, store, step, thing):
    """What a thing of the store becomes."""
    step_store(rule, store, step)
    return turned_thing(rule, store, step, checked_thing(rule, store, thing))


def back_thing(rule, store, step, thing):
    """What became a thing of the store behind."""
    behind = step_store(rule, store, step)
    return turned_thing(rule, behind, turned_back([step])[0], checked_thing(rule, behind, thing))
