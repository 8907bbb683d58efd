"""Chains: steps one behind another, which turn the things of one store into those of another one."""

from sevenasone.checks import is_within
from sevenasone.counts import moved
from sevenasone.errors import BadChain, BadNumber, Misfit, NoStep, TooMany
from sevenasone.papers import Paper
from sevenasone.rules import check_rule
from sevenasone.steps import OPENS, can_step, is_step, step_store, turned_back, turned_thing
from sevenasone.stores import MOST_TREES, Store, check_store
from sevenasone.things import checked_thing

MOST_STEPS = 1000


class Led(Paper):
    """Steps that lead from one store to another one."""

    def __init__(self, steps):
        super().__init__("led", steps)
        self.steps = self.parts[0]


def _are_steps(value):
    return isinstance(value, (list, tuple)) and all([is_step(step) for step in value])


def _stores_along(rule, begin, steps):
    """The stores from begin on, one behind each step."""
    stores = [begin]
    for index, step in enumerate(steps):
        if not can_step(rule, stores[-1], step):
            raise NoStep(index)
        stores.append(step_store(rule, stores[-1], step))
    return tuple(stores)


def _steps_under(steps, number):
    """The steps, done under so many further trees."""
    return [(way, trees + number) for way, trees in steps]


class Chain:
    """Steps that can be done one behind another, from a store by a rule."""

    def __init__(self, rule, begin, steps):
        check_rule(rule)
        check_store(begin, "begin")
        if not _are_steps(steps):
            raise BadChain("steps")
        if len(steps) > MOST_STEPS:
            raise TooMany("steps", MOST_STEPS)
        self._stores = _stores_along(rule, begin, steps)
        self.rule = rule
        self.begin = begin
        self.steps = tuple([(way, trees) for way, trees in steps])
        self.end = self._stores[-1]

    def __len__(self):
        return len(self.steps)

    def __eq__(self, other):
        if not isinstance(other, Chain):
            return False
        return self.rule == other.rule and self.begin == other.begin and self.steps == other.steps

    def stores(self):
        """The tuple of all stores, from begin to end."""
        return self._stores

    def run(self, thing):
        """What a thing of begin becomes."""
        now = checked_thing(self.rule, self.begin, thing)
        for store, step in zip(self._stores, self.steps):
            now = turned_thing(self.rule, store, step, now)
        return now

    def back(self, thing):
        """What becomes a thing of end."""
        now = checked_thing(self.rule, self.end, thing)
        for store, step in zip(self._stores[::-1], turned_back(self.steps)):
            now = turned_thing(self.rule, store, step, now)
        return now

    def backwards(self):
        """The chain from end to begin."""
        return Chain(self.rule, self.end, turned_back(self.steps))

    def joined(self, other):
        """The chain with the steps of the other one behind."""
        check_chain(other, "other")
        if self.rule != other.rule:
            raise Misfit("rules")
        if self.end != other.begin:
            raise Misfit("stores")
        return Chain(self.rule, self.begin, self.steps + other.steps)

    def beside(self, store):
        """The same steps with the boxes of a store ahead, whose things stay."""
        check_store(store, "store")
        return Chain(self.rule, store.plus(self.begin), self.steps)

    def under(self, number):
        """The chain with so many trees more in each box, which stay."""
        if not is_within(number, 0, None):
            raise BadNumber("number")
        # Any number above the most is too many, if there is a box: no longer a row is made for a greater one.
        begin = Store(moved(self.begin.counts, min(number, MOST_TREES + 1)))
        return Chain(self.rule, begin, _steps_under(self.steps, number))

    def times(self, store):
        """The chain from begin times the store to end times the store."""
        check_store(store, "store")
        if len(self.steps) * store.many > MOST_STEPS:
            raise TooMany("steps", MOST_STEPS)
        steps = []
        for trees, boxes in enumerate(store.counts):
            # Without steps there may be any number of boxes.
            if len(self.steps) > 0:
                steps.extend(_steps_under(self.steps, trees) * boxes)
        return Chain(self.rule, self.begin.times(store), steps)


def check_chain(chain, name):
    """BadChain with this name for any other value than a chain."""
    if not isinstance(chain, Chain):
        raise BadChain(name)


def meeting(chain):
    """What can be opened in begin, and what in end, to come to one store.

    Step by step, from the store behind it the second numbers come to where the first ones come from begin.
    A closing is undone by an opening ahead of them. An opening that they have is left; one that they do not
    have can be done behind them, too, as they have left its box alone.
    """
    check_chain(chain, "chain")
    first, second = [], []
    for way, trees in chain.steps:
        if way != OPENS:
            second.insert(0, trees)
        elif trees in second:
            second.remove(trees)
        else:
            first.append(trees)
    return (tuple(first), tuple(second))
