import random
import unittest

import listing
from helpers import ANYTHING, Refusals
from sevenasone.chains import Chain, Led, meeting
from sevenasone.errors import BadChain, BadNumber, BadRule, BadStore, BadThing, Misfit, NoStep, TooMany
from sevenasone.papers import Denial, Paper
from sevenasone.rules import Rule
from sevenasone.steps import can_step, step_store
from sevenasone.stores import Store, power_of
from sevenasone.things import is_thing, shifted
from test_steps import NO_STEPS

RULES = [Rule(counts) for counts in ([1, 0, 1], [1, 1, 1], [2, 2, 1], [2, 0, 0, 1], [1, 3, 0, 2])]
BINARY, X, LEAF = RULES[0], Store([0, 1]), (0, 0)
FORK = (2, 0, LEAF, LEAF)


def some_chain(rule, begin, length, seed, most=5):
    """A chain of so many steps: of those that can be done each time any one, closing ones where there are such."""
    chosen, store, steps = random.Random(seed), begin, []
    for _ in range(length):
        can = [(way, k) for way in (1, -1) for k in range(1, most) if can_step(rule, store, (way, k))]
        closing = [step for step in can if step[0] < 0]
        steps.append(chosen.choice(closing if closing and chosen.random() < 0.6 else can))
        store = step_store(rule, store, steps[-1])
    return Chain(rule, begin, steps)


def some_chains():
    for seed, rule in enumerate(RULES * 3):
        for begin in ([0, 1], [1, 2], [0, 0, 1], [2, 1, 1, 1], list(rule.counts)):
            yield some_chain(rule, Store(begin), 4 + seed, seed)


def open_all(rule, store, numbers):
    return Chain(rule, store, [(1, number) for number in numbers]).end


class Made(Refusals, unittest.TestCase):
    def test_attributes(self):
        for chain in some_chains():
            again = Chain(chain.rule, chain.begin, [list(step) for step in chain.steps])
            self.exactly(again.steps, chain.steps)
            self.assertEqual((again.rule, again.begin, again.end), (chain.rule, chain.begin, chain.end))
            self.assertEqual(len(again), len(chain.steps))
            stores = again.stores()
            self.assertIs(type(stores), tuple)
            boxes = listing.Boxes(chain.rule.counts, chain.begin.counts)
            self.assertEqual(stores[0].counts, boxes.store())
            for step, store in zip(chain.steps, stores[1:]):
                boxes.do(step)
                self.assertEqual(store.counts, boxes.store())
            self.assertEqual((stores[0], stores[-1], len(stores)), (chain.begin, chain.end, len(chain) + 1))

    def test_no_step(self):
        for store in (Store([]), Store([5]), X):
            chain = Chain(BINARY, store, [])
            self.assertEqual((chain.steps, chain.end, chain.stores(), len(chain)), ((), store, (store,), 0))
            self.assertEqual(Chain(BINARY, store, ()), chain)

    def test_lists_that_are_changed_behind(self):
        step, counts = [1, 1], [0, 1]
        steps, begin = [step], Store(counts)
        chain = Chain(BINARY, begin, steps)
        step[1] = 5
        steps.append((1, 2))
        counts.append(7)
        self.exactly(chain.steps, ((1, 1),))
        self.assertEqual((chain.begin.counts, chain.end.counts, len(chain)), ((0, 1), (1, 0, 1), 1))

    def test_equality(self):
        chain = Chain(BINARY, X, [(1, 1), (1, 2)])
        self.assertTrue(chain == Chain(Rule([1, 0, 1]), Store([0, 1]), [[1, 1], [1, 2]]))
        self.assertFalse(chain != Chain(Rule([1, 0, 1]), Store([0, 1]), [[1, 1], [1, 2]]))
        for other in (Chain(BINARY, X, [(1, 1)]), Chain(Rule([1, 0, 2]), X, [(1, 1), (1, 2)]), Chain(BINARY, X, []),
                      Chain(BINARY, Store([0, 2]), [(1, 1), (1, 2)]), Chain(BINARY, X, [(1, 1), (1, 2), (-1, 2)]),
                      chain.steps, X, None, "chain", 2):
            self.assertFalse(chain == other)
            self.assertTrue(chain != other)

    def test_a_thousand_steps_and_one_more(self):
        turns = [(1, 1), (-1, 1)] * 500
        self.assertEqual(Chain(BINARY, X, turns).end, X)
        self.assertEqual(len(Chain(BINARY, X, turns)), 1000)
        self.refuses(TooMany, ("steps", 1000), Chain, BINARY, X, turns + [(1, 1)])
        self.refuses(TooMany, ("steps", 1000), Chain, BINARY, Store([]), [(1, 1)] * 1001)
        self.refuses(BadChain, ("steps",), Chain, BINARY, X, turns + [(1, 0)])
        self.refuses(BadChain, ("steps",), Chain, BINARY, X, [(1, 1)] * 2000 + [None])

    def test_no_step_with_its_index(self):
        self.refuses(NoStep, (0,), Chain, BINARY, X, [(-1, 1), (1, 1)])
        self.refuses(NoStep, (1,), Chain, BINARY, X, [(1, 1), (1, 1)])
        self.refuses(NoStep, (2,), Chain, BINARY, X, [(1, 1), (-1, 1), (1, 2)])
        self.refuses(NoStep, (0,), Chain, BINARY, Store([7]), [(1, 1)])
        self.refuses(NoStep, (1,), Chain, BINARY, X, [(1, 1), (1, 10 ** 30)])
        for chain in some_chains():
            for way in (1, -1):
                for k in range(1, 5):
                    if not can_step(chain.rule, chain.end, (way, k)):
                        self.refuses(NoStep, (len(chain),), Chain, chain.rule, chain.begin,
                                     chain.steps + ((way, k), (1, 99)))

    def test_too_many_trees_step_by_step(self):
        up = [(1, k) for k in range(1, 40)]
        self.assertEqual(Chain(BINARY, X, up).end.counts, (1,) * 39 + (0, 1))
        self.refuses(TooMany, ("trees", 40), Chain, BINARY, X, up + [(1, 40)])
        self.refuses(TooMany, ("trees", 40), Chain, BINARY, X, up + [(1, 40), (1, 99)])
        self.refuses(NoStep, (39,), Chain, BINARY, X, up + [(1, 39), (1, 40)])
        self.refuses(TooMany, ("trees", 40), Chain, BINARY, X, up + [(1, 40), (-1, 40)])

    def test_refused_in_order(self):
        for value in ANYTHING + ((1, 0, 1), "1 0 1"):
            self.refuses(BadRule, ("rule",), Chain, value, None, None)
            self.refuses(BadStore, ("begin",), Chain, BINARY, value, None)
            if value not in ((), []):
                self.refuses(BadChain, ("steps",), Chain, BINARY, X, value)
        for value in NO_STEPS:
            self.refuses(BadChain, ("steps",), Chain, BINARY, X, [value])
            self.refuses(BadChain, ("steps",), Chain, BINARY, X, [(-1, 5), (1, 1), value])
        self.refuses(BadChain, ("steps",), Chain, BINARY, X, (1, 1))
        self.refuses(BadChain, ("steps",), Chain, BINARY, X, {(1, 1): 1})

    def test_led(self):
        steps = [[1, 1], [1, 2]]
        paper = Led(steps)
        steps[0][1] = 7
        self.exactly((paper.word, paper.parts, paper.steps), ("led", (((1, 1), (1, 2)),), ((1, 1), (1, 2))))
        self.assertTrue(paper)
        self.assertIsInstance(paper, Paper)
        self.assertNotIsInstance(paper, Denial)
        self.assertEqual(Led(steps=((1, 1), (1, 2))), paper)
        self.assertNotEqual(Led([(1, 1)]), paper)
        self.assertNotEqual(Paper("led", ((1, 1), (1, 2))), paper)
        for value in ANYTHING:
            if not isinstance(value, (list, tuple)):
                self.assertIs(Led(value).steps, value)


class Things(Refusals, unittest.TestCase):
    def test_run_and_back_by_a_listing_of_boxes(self):
        for chain in some_chains():
            things = listing.things_up_to(chain.rule.counts, chain.begin.counts, 5)[:40]
            boxes = listing.Boxes(chain.rule.counts, chain.begin.counts)
            named = [boxes.named(thing) for thing in things]
            for step in chain.steps:
                turned = boxes.do(step)
                named = [turned(*pair) for pair in named]
            expected = [boxes.told(*pair) for pair in named]
            self.exactly([chain.run(listing.listed(thing)) for thing in things], expected)
            self.exactly([chain.back(listing.listed(one)) for one in expected], things)
            self.assertEqual(len(set(expected)), len(expected))

    def test_things_of_end_come_home(self):
        for chain in some_chains():
            for thing in listing.things_up_to(chain.rule.counts, chain.end.counts, 4)[:30]:
                before = chain.back(thing)
                self.assertTrue(is_thing(chain.rule, chain.begin, before))
                self.exactly(chain.run(before), thing)

    def test_great_things(self):
        tree = LEAF
        for _ in range(10):
            tree = (2, 0, tree, tree)
        chain = Chain(BINARY, power_of(3), [(1, 3), (1, 4), (1, 5), (1, 2), (-1, 5), (1, 3)])
        for thing in ((3, 0, tree, tree, tree), (3, 0, LEAF, tree, FORK), (3, 0, (2, 0, LEAF, tree), LEAF, LEAF)):
            came = chain.run(thing)
            self.assertTrue(is_thing(BINARY, chain.end, came))
            self.assertEqual(chain.back(came), thing)

    def test_things_that_grow_deep_on_the_way(self):
        rule = Rule([1, 1, 1])
        chain = Chain(rule, X, [(1, 1)] * 1000)
        self.assertEqual(chain.end.counts, (1000, 1, 1000))
        deep = chain.back((1, 0, LEAF))
        layers, tree = 0, deep[2]
        while tree != LEAF:
            layers, tree = layers + 1, tree[2]
        self.assertEqual(layers, 1000)
        self.exactly(chain.run(deep), (1, 0, LEAF))
        there = Chain(rule, chain.end, chain.backwards().steps[:500] + chain.steps[500:])
        self.exactly(there.run((2, 999, LEAF, LEAF)), (2, 999, LEAF, LEAF))

    def test_stores_of_very_many_boxes(self):
        many = 10 ** 20
        begin = Store([many, many, many, 0, many])
        chain = Chain(BINARY, begin, [(1, 1), (1, 2), (1, 3), (-1, 1), (1, 4), (1, 4)])
        self.assertEqual(chain.end.counts, (many, many + 1, many, 2, many - 1, 2))
        for trees, boxes in enumerate(begin.counts):
            for index in (0, boxes // 2, boxes - 3, boxes - 2, boxes - 1):
                if boxes > 0:
                    thing = (trees, index) + (FORK,) * trees
                    came = chain.run(thing)
                    self.assertTrue(is_thing(BINARY, chain.end, came))
                    self.exactly(chain.back(came), thing)
        self.exactly(chain.run((4, many - 2, LEAF, LEAF, LEAF, LEAF)), (4, many - 2, LEAF, LEAF, LEAF, LEAF))
        self.exactly(chain.run((4, many - 1, FORK, LEAF, LEAF, LEAF)), (5, 1, LEAF, LEAF, LEAF, LEAF, LEAF))

    def test_refuse(self):
        chain = Chain(BINARY, X, [(1, 1)])
        for value in ANYTHING + ((1, 1, LEAF), (1, 0), (1, 0, (1, 0, LEAF)), (2, 1, LEAF, LEAF)):
            self.refuses(BadThing, ("thing",), chain.run, value)
            self.refuses(BadThing, ("thing",), chain.back, value)
        self.refuses(BadThing, ("thing",), chain.run, (0, 0))
        self.refuses(BadThing, ("thing",), chain.back, (1, 0, LEAF))


class PutTogether(Refusals, unittest.TestCase):
    def test_backwards(self):
        for chain in some_chains():
            back = chain.backwards()
            self.assertEqual((back.rule, back.begin, back.end), (chain.rule, chain.end, chain.begin))
            self.exactly(back.steps, tuple((-way, k) for way, k in reversed(chain.steps)))
            self.assertEqual(back.stores(), chain.stores()[::-1])
            self.assertEqual(back.backwards(), chain)
            for thing in listing.things_up_to(chain.rule.counts, chain.begin.counts, 4)[:20]:
                self.exactly(back.run(chain.run(thing)), thing)
                self.exactly(back.back(thing), chain.run(thing))

    def test_joined(self):
        for seed, chain in enumerate(some_chains()):
            other = some_chain(chain.rule, chain.end, 5, seed)
            before = (chain.steps, chain.end, other.steps, other.begin)
            both = chain.joined(other)
            self.assertEqual((both.begin, both.end, both.rule), (chain.begin, other.end, chain.rule))
            self.exactly(both.steps, chain.steps + other.steps)
            self.assertEqual(both.stores(), chain.stores() + other.stores()[1:])
            self.assertEqual((chain.steps, chain.end, other.steps, other.begin), before)
            for thing in listing.things_up_to(chain.rule.counts, chain.begin.counts, 4)[:20]:
                self.exactly(both.run(thing), other.run(chain.run(thing)))
            home = chain.joined(chain.backwards())
            self.assertEqual((home.begin, home.end), (chain.begin, chain.begin))

    def test_joined_refuses_in_order(self):
        chain = Chain(BINARY, X, [(1, 1)])
        for value in ANYTHING + (((1, 1),), X, BINARY):
            self.refuses(BadChain, ("other",), chain.joined, value)
        self.refuses(Misfit, ("rules",), chain.joined, Chain(Rule([1, 0, 2]), chain.end, []))
        self.refuses(Misfit, ("rules",), chain.joined, Chain(Rule([1, 0, 2]), X, []))
        self.refuses(Misfit, ("stores",), chain.joined, Chain(BINARY, X, []))
        long = Chain(BINARY, X, [(1, 1), (-1, 1)] * 500)
        self.assertEqual(len(Chain(BINARY, X, []).joined(long)), 1000)
        self.refuses(TooMany, ("steps", 1000), long.joined, Chain(BINARY, X, [(1, 1)]))
        self.refuses(Misfit, ("stores",), long.joined, chain.backwards())
        self.refuses(Misfit, ("rules",), long.joined, Chain(Rule([1, 0, 2]), X, [(1, 1)]))

    def test_beside(self):
        for chain in some_chains():
            for counts in ([], [2], [0, 1], [1, 3, 1, 1], [0] * 40 + [1]):
                store = Store(counts)
                both = chain.beside(store)
                self.assertEqual((both.rule, both.begin, both.end, both.steps),
                                 (chain.rule, store.plus(chain.begin), store.plus(chain.end), chain.steps))
                for thing in listing.things_up_to(chain.rule.counts, store.counts, 3)[:15]:
                    self.exactly(both.run(thing), thing)
                for thing in listing.things_up_to(chain.rule.counts, chain.begin.counts, 3)[:15]:
                    behind = shifted(chain.rule, store, chain.end, chain.run(thing))
                    self.exactly(both.run(shifted(chain.rule, store, chain.begin, thing)), behind)
        for value in ANYTHING + ((0, 1), BINARY):
            self.refuses(BadStore, ("store",), Chain(BINARY, X, []).beside, value)

    def test_under(self):
        for chain in some_chains():
            for number in (0, 1, 3):
                more = chain.under(number)
                self.assertEqual((more.rule, more.begin, more.end),
                                 (chain.rule, chain.begin.times(power_of(number)), chain.end.times(power_of(number))))
                self.exactly(more.steps, tuple((way, k + number) for way, k in chain.steps))
                last = (FORK, LEAF, FORK)[:number] if chain.rule == BINARY else (LEAF, (0, chain.rule.counts[0] - 1),
                                                                                 LEAF)[:number]
                for thing in listing.things_up_to(chain.rule.counts, chain.begin.counts, 4)[:20]:
                    came = chain.run(thing)
                    expected = (came[0] + number,) + came[1:] + last
                    self.exactly(more.run((thing[0] + number,) + thing[1:] + last), expected)

    def test_under_refuses(self):
        chain = Chain(BINARY, X, [(1, 1)])
        for value in (-1, -10 ** 30, True, False, None, "1", 1.0, (), [1], object()):
            self.refuses(BadNumber, ("number",), chain.under, value)
        self.assertEqual(chain.under(38).end, Store([0] * 38 + [1, 0, 1]))
        for number in (39, 40, 41, 10 ** 30):
            self.refuses(TooMany, ("trees", 40), chain.under, number)
        still = Chain(BINARY, Store([1]), [])
        self.assertEqual(still.under(40).begin, power_of(40))
        self.refuses(TooMany, ("trees", 40), still.under, 41)
        none = Chain(BINARY, Store([]), [])
        for number in (0, 41, 10 ** 30):
            self.assertEqual(none.under(number), none)

    def test_times(self):
        for chain in some_chains():
            for counts in ([], [1], [2], [0, 1], [2, 1], [1, 0, 2]):
                store = Store(counts)
                both = chain.times(store)
                self.assertEqual((both.rule, both.begin, both.end),
                                 (chain.rule, chain.begin.times(store), chain.end.times(store)))
                self.exactly(both.steps, tuple((way, k + trees) for trees, boxes in enumerate(counts)
                                               for _ in range(boxes) for way, k in chain.steps))
                for thing in listing.things_up_to(chain.rule.counts, both.begin.counts, 4)[:20]:
                    came = both.run(thing)
                    self.assertTrue(is_thing(chain.rule, both.end, came))
                    self.exactly(both.back(came), thing)

    def test_times_refuses_in_order(self):
        chain = Chain(BINARY, X, [(1, 1)])
        for value in ANYTHING + ((0, 1), BINARY):
            self.refuses(BadStore, ("store",), chain.times, value)
        self.assertEqual(len(chain.times(Store([1000]))), 1000)
        self.assertEqual(len(chain.times(Store([500, 500]))), 1000)
        self.refuses(TooMany, ("steps", 1000), chain.times, Store([1001]))
        self.refuses(TooMany, ("steps", 1000), chain.times, Store([500, 501]))
        self.refuses(TooMany, ("steps", 1000), chain.times, Store([0] * 40 + [1001]))
        self.refuses(TooMany, ("steps", 1000), chain.times, Store([10 ** 30]))
        self.refuses(TooMany, ("trees", 40), chain.times, power_of(40))
        self.refuses(TooMany, ("trees", 40), chain.times, power_of(39))
        self.assertEqual(chain.times(power_of(38)).end, Store([0] * 38 + [1, 0, 1]))
        still = Chain(BINARY, Store([0, 3]), [])
        self.assertEqual(still.times(Store([10 ** 30])).begin, Store([0, 3 * 10 ** 30]))
        self.refuses(TooMany, ("trees", 40), still.times, power_of(40))
        self.assertEqual(still.times(Store([])), Chain(BINARY, Store([]), []))

    def test_no_chain_changes(self):
        chain = Chain(BINARY, Store([0, 1]), [(1, 1), (1, 2)])
        before = (chain.steps, chain.begin.counts, chain.end.counts, [store.counts for store in chain.stores()])
        chain.backwards(), chain.under(2), chain.times(Store([2, 1])), chain.beside(X), meeting(chain)
        chain.run([1, 0, [0, 0]]), chain.back([0, 0])
        self.assertEqual((chain.steps, chain.begin.counts, chain.end.counts,
                          [store.counts for store in chain.stores()]), before)


class Meetings(Refusals, unittest.TestCase):
    def meets(self, chain):
        found = meeting(chain)
        self.assertIs(type(found), tuple)
        first, second = found
        self.assertTrue(type(first) is type(second) is tuple)
        self.assertTrue(all(type(number) is int for number in first + second))
        self.assertEqual(open_all(chain.rule, chain.begin, first), open_all(chain.rule, chain.end, second))
        self.assertEqual(meeting(Chain(chain.rule, chain.begin, chain.steps)), found)

    def test_any_chains(self):
        for chain in some_chains():
            for one in (chain, chain.backwards(), chain.joined(chain.backwards()), chain.under(2),
                        chain.times(Store([1, 1]))):
                self.meets(one)

    def test_long_chains(self):
        for seed, rule in enumerate(RULES):
            chain = some_chain(rule, Store([0, 1]), 200, seed, 12)
            self.meets(chain)
            self.meets(chain.backwards())

    def test_chains_of_one_way(self):
        opening = Chain(BINARY, X, [(1, 1), (1, 2), (1, 3)])
        self.meets(opening)
        self.meets(opening.backwards())

    def test_chains_that_close_ahead_and_come_back(self):
        store = Store([1, 0, 1, 0, 1])
        for steps in ([(-1, 1), (1, 1)], [(-1, 1), (1, 4)], [(1, 4), (-1, 1), (1, 1), (-1, 4)],
                      [(1, 2), (1, 3), (-1, 3), (-1, 2)], [(-1, 1), (1, 1), (1, 2), (-1, 2), (1, 4)]):
            self.meets(Chain(BINARY, store, steps))

    def test_no_step(self):
        for store in (Store([]), Store([5]), X):
            self.meets(Chain(BINARY, store, []))

    def test_at_the_bounds(self):
        rule = Rule([1, 1, 1])
        self.meets(Chain(rule, X, [(1, 1)] * 1000))
        self.meets(Chain(rule, X, [(1, 1)] * 1000).backwards())
        up = Chain(BINARY, X, [(1, k) for k in range(1, 40)])
        self.meets(up)
        self.meets(up.backwards())
        self.meets(up.joined(up.backwards()))

    def test_refuses(self):
        for value in ANYTHING + (((1, 1),), X, BINARY, Led([])):
            self.refuses(BadChain, ("chain",), meeting, value)


if __name__ == "__main__":
    unittest.main()
