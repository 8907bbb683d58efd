import itertools
import unittest

import listing
from helpers import ANYTHING, Refusals
from sevenasone.errors import BadChain, BadRule, BadStore, BadThing, Misfit, TooMany
from sevenasone.rules import Rule
from sevenasone.steps import back_thing, can_step, step_store, step_thing
from sevenasone.stores import Store, power_of
from sevenasone.things import is_thing

RULES = [Rule(counts) for counts in ([1, 0, 1], [1, 1, 1], [2, 2, 1], [2, 0, 0, 1], [1, 3, 0, 2])]
BINARY, X, LEAF = RULES[0], Store([0, 1]), (0, 0)
NO_STEPS = ANYTHING + ((0, 1), (1, 0), (2, 1), (-2, 1), (1, -1), (-1, 0), (-1, -3), (1, True), (True, 1), (1, False),
                       (False, 1), (1, None), (None, 1), (1, 1, 1), (1,), (1, "1"), ("1", 1), "11", (1, 1.0), (1.0, 1),
                       ((1, 1),), [[1, 1]], (1, (1,)), {1: 1, -1: 1}, (10 ** 30, 1))


def stores_around(rule):
    """Small stores, those which a step closes to one box with 1 to 3 trees, and those that just lack one box."""
    found = [list(counts) for counts in itertools.product(range(3), repeat=3)]
    for k in (1, 2, 3):
        closing = [0] * (k - 1) + list(rule.counts)
        found += [closing, [count + 1 for count in closing], [2] * k + closing[k:]]
        for place in range(len(closing)):
            if closing[place]:
                found.append(closing[:place] + [closing[place] - 1] + closing[place + 1:])
                found.append([count + 1 for count in found[-1][:place]] + found[-1][place:])
    for counts in found:
        while counts and counts[-1] == 0:
            counts.pop()
    return [Store(counts) for counts in found]


STEPS = [(way, k) for way in (1, -1) for k in range(1, 6)]


class Steps(Refusals, unittest.TestCase):
    def test_stores_by_a_listing_of_boxes(self):
        done = lacking = 0
        for rule in RULES:
            for store in stores_around(rule):
                for step in STEPS:
                    boxes = listing.Boxes(rule.counts, store.counts)
                    can = boxes.goes(step) is not None
                    self.assertIs(can_step(rule, store, list(step)), can)
                    if can:
                        boxes.do(step)
                        self.assertEqual(step_store(rule, store, step).counts, boxes.store())
                        done += 1
                    else:
                        self.refuses(Misfit, ("step",), step_store, rule, store, step)
                        self.refuses(Misfit, ("step",), step_thing, rule, store, step, None)
                        self.refuses(Misfit, ("step",), back_thing, rule, store, step, None)
                        lacking += 1
        self.assertGreater(min(done, lacking), 100)

    def test_things_by_a_listing_of_boxes(self):
        for rule in RULES:
            for store in stores_around(rule):
                for step in STEPS:
                    boxes = listing.Boxes(rule.counts, store.counts)
                    if boxes.goes(step) is None:
                        continue
                    things = listing.things_up_to(rule.counts, store.counts, 4)[:40]
                    named = [boxes.named(thing) for thing in things]
                    turned = boxes.do(step)
                    expected = [boxes.told(*turned(*pair)) for pair in named]
                    came = [step_thing(rule, store, step, listing.listed(thing)) for thing in things]
                    self.exactly(came, expected)
                    self.assertEqual(len(set(came)), len(came))
                    behind = step_store(rule, store, step)
                    for thing, one in zip(things, came):
                        self.assertTrue(is_thing(rule, behind, one))
                        self.exactly(back_thing(rule, store, step, listing.listed(one)), thing)
                        self.exactly(step_thing(rule, behind, [-step[0], step[1]], one), thing)

    def test_every_thing_behind_comes_of_one(self):
        for rule in RULES:
            for store in stores_around(rule)[:12]:
                for step in STEPS:
                    if can_step(rule, store, step):
                        behind = step_store(rule, store, step)
                        for thing in listing.things_up_to(rule.counts, behind.counts, 3)[:50]:
                            before = back_thing(rule, store, step, thing)
                            self.assertTrue(is_thing(rule, store, before))
                            self.exactly(step_thing(rule, store, step, before), thing)

    def test_just_one_box_is_lacking(self):
        rule = Rule([2, 1, 1])
        self.assertIs(can_step(rule, Store([2, 1, 1]), (-1, 1)), True)
        for counts in ([1, 1, 1], [2, 0, 1], [2, 1], [2, 1, 0, 5], [9, 0, 9]):
            self.assertIs(can_step(rule, Store(counts), (-1, 1)), False)
            self.refuses(Misfit, ("step",), step_store, rule, Store(counts), (-1, 1))
        self.assertEqual(step_store(rule, Store([2, 1, 1]), (-1, 1)), X)

    def test_the_knots_of_closed_boxes(self):
        rule = Rule([2, 2, 1])
        store = Store([3, 3, 2])
        below = (2, 0, LEAF, (0, 1))
        behind = step_store(rule, store, (-1, 1))
        self.assertEqual(behind.counts, (1, 2, 1))
        for thing, expected in (((0, 0), (0, 0)), ((0, 1), (1, 1, (0, 0))), ((0, 2), (1, 1, (0, 1))),
                                ((1, 0, below), (1, 0, below)), ((1, 1, below), (1, 1, (1, 0, below))),
                                ((1, 2, below), (1, 1, (1, 1, below))), ((2, 0, LEAF, below), (2, 0, LEAF, below)),
                                ((2, 1, LEAF, below), (1, 1, (2, 0, LEAF, below)))):
            self.exactly(step_thing(rule, store, (-1, 1), thing), expected)

    def test_finite_stores_have_no_step(self):
        for rule in RULES:
            for store in (Store([]), Store([1]), Store([10 ** 20])):
                for step in STEPS + [(1, 10 ** 30), (-1, 10 ** 30)]:
                    self.assertIs(can_step(rule, store, step), False)
                    self.refuses(Misfit, ("step",), step_store, rule, store, step)

    def test_forty_trees(self):
        store = power_of(40).plus(X)
        thing = (40, 0) + (LEAF,) * 40
        self.assertIs(can_step(BINARY, store, (1, 40)), True)
        self.refuses(TooMany, ("trees", 40), step_store, BINARY, store, (1, 40))
        self.refuses(TooMany, ("trees", 40), step_thing, BINARY, store, (1, 40), None)
        self.refuses(TooMany, ("trees", 40), back_thing, BINARY, store, (1, 40), None)
        self.exactly(step_thing(BINARY, store, (1, 1), thing), thing)
        self.exactly(back_thing(BINARY, store, (1, 1), list(thing)), thing)
        store = power_of(39)
        behind = step_store(BINARY, store, (1, 39))
        self.assertEqual(behind.counts, (0,) * 38 + (1, 0, 1))
        thing = (39, 0, (2, 0, LEAF, LEAF)) + (LEAF,) * 38
        self.exactly(step_thing(BINARY, store, (1, 39), thing), (40, 0) + (LEAF,) * 40)
        self.exactly(step_thing(BINARY, behind, (-1, 39), (40, 0) + (LEAF,) * 40), thing)
        self.refuses(Misfit, ("step",), step_store, BINARY, power_of(39), (1, 40))
        self.refuses(Misfit, ("step",), step_store, BINARY, power_of(39), (1, 10 ** 30))
        self.refuses(TooMany, ("trees", 40), step_store, Rule([1, 0, 0, 0, 0, 1]), power_of(36).plus(power_of(37)),
                     (1, 37))

    def test_great_stores(self):
        many = 10 ** 20
        store = Store([many, many, many])
        behind = step_store(BINARY, store, (1, 1))
        self.assertEqual(behind.counts, (many + 1, many - 1, many + 1))
        self.exactly(step_thing(BINARY, store, (1, 1), (1, many - 1, LEAF)), (0, many))
        self.exactly(step_thing(BINARY, store, (1, 1), (1, many - 2, LEAF)), (1, many - 2, LEAF))
        self.exactly(back_thing(BINARY, store, (1, 1), (2, many, LEAF, LEAF)), (1, many - 1, (2, 0, LEAF, LEAF)))

    def test_what_is_no_step(self):
        for value in NO_STEPS:
            self.refuses(BadChain, ("step",), can_step, BINARY, X, value)
            self.refuses(BadChain, ("step",), step_store, BINARY, X, value)
            self.refuses(BadChain, ("step",), step_thing, BINARY, X, value, (1, 0, LEAF))
            self.refuses(BadChain, ("step",), back_thing, BINARY, X, value, (0, 0))

    def test_what_is_no_thing(self):
        for value in ANYTHING + ((1, 0), (1, 1, LEAF), (1, 0, (1, 0, LEAF)), (1, 0, LEAF, LEAF)):
            self.refuses(BadThing, ("thing",), step_thing, BINARY, X, (1, 1), value)
            self.refuses(BadThing, ("thing",), back_thing, BINARY, X, (1, 1), value)
        self.refuses(BadThing, ("thing",), step_thing, BINARY, X, (1, 1), (0, 0))
        self.refuses(BadThing, ("thing",), back_thing, BINARY, X, (1, 1), (1, 0, LEAF))

    def test_refused_in_order(self):
        for value in ANYTHING + ((1, 0, 1), "1 0 1"):
            for work, more in ((can_step, ()), (step_store, ()), (step_thing, (None,)), (back_thing, (None,))):
                self.refuses(BadRule, ("rule",), work, value, None, None, *more)
                self.refuses(BadStore, ("store",), work, BINARY, value, None, *more)
                self.refuses(BadChain, ("step",), work, BINARY, Store([]), None, *more)

    def test_what_is_passed_stays(self):
        step, thing = [1, 1], [1, 0, [2, 0, [0, 0], [0, 0]]]
        self.exactly(step_thing(BINARY, X, step, thing), (2, 0, LEAF, LEAF))
        self.exactly((step, thing, X.counts), ([1, 1], [1, 0, [2, 0, [0, 0], [0, 0]]], (0, 1)))


if __name__ == "__main__":
    unittest.main()
