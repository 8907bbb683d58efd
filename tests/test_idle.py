import itertools
import unittest

from helpers import ANYTHING, Refusals
from reckoning import added
from sevenasone.alike import alike
from sevenasone.chains import Chain
from sevenasone.errors import BadNumber, BadRule, BadStore, TooMany
from sevenasone.idle import beside_idle, idle_chain, idle_store, opened_to
from sevenasone.rules import Rule
from sevenasone.stores import Store, power_of
from walking import walk

ALL_RULES = [Rule(counts) for size in (3, 4, 5, 6) for counts in itertools.product(range(4), repeat=size)
             if counts[0] and counts[-1]]
SOME_RULES = ALL_RULES[::97] + [Rule(counts) for counts in (
    [1, 0, 1], [1, 1, 1], [2, 0, 0, 1], [1, 3, 0, 2], [3, 0, 0, 0, 0, 3], [1, 0, 0, 0, 0, 1], [1, 1, 0, 0, 0, 1],
    [2, 0, 0, 3, 1, 1], [3, 3, 3, 3, 3, 3])]
BINARY, X = Rule([1, 0, 1]), Store([0, 1])
ENDLESS = [Store(counts) for counts in ([0, 1], [3, 0, 1], [0, 0, 0, 2], [1, 2, 1], [0] * 7 + [1], [0] * 30 + [1],
                                        [0] * 29 + [4, 1], [10 ** 30, 0, 10 ** 30], [1] * 31)]


def idle_counts(counts):
    """The counts of the idle store, by opening boxes as the document tells it."""
    row = [0] * 20
    wanted = [1]
    if not counts[1]:
        wanted += range(next(m for m in range(2, 6) if counts[m]), 1, -1)
    for k in wanted:
        row[k] -= k != 1
        for m, many in enumerate(counts):
            row[k - 1 + m] += many
    row[1] -= 1
    return added(row, ())


class Idle(Refusals, unittest.TestCase):
    def test_all_rules(self):
        for rule in ALL_RULES:
            counts = idle_counts(rule.counts)
            self.assertEqual(idle_store(rule).counts, counts)
            self.assertTrue(idle_store(rule).is_endless)
            chain = idle_chain(rule)
            self.assertEqual((chain.rule, chain.begin, chain.end), (rule, X, Store(added(counts, (0, 1)))))

    def test_the_chain_walked(self):
        for rule in SOME_RULES:
            walk(self, idle_chain(rule), X, X.plus(idle_store(rule)))
            self.assertTrue(alike(rule, X, X.plus(idle_store(rule))))

    def test_idle_stores_put_together_are_alike_to_one(self):
        for rule in SOME_RULES:
            idle = idle_store(rule)
            self.assertTrue(alike(rule, idle, idle.plus(idle)))
            self.assertTrue(alike(rule, idle, idle.plus(idle).plus(idle)))

    def test_some(self):
        for counts, expected in (([1, 0, 1], (1, 0, 0, 1)), ([1, 1, 1], (1, 0, 1)), ([2, 0, 0, 1], (2, 1, 1, 0, 1, 1)),
                                 ([1, 3, 0, 2], (1, 2, 0, 2)), ([1, 0, 2], (1, 0, 1, 2))):
            self.exactly(idle_store(Rule(counts)).counts, expected)
        self.assertEqual(idle_store(rule=BINARY), Store([1, 0, 0, 1]))
        self.assertEqual(idle_chain(rule=BINARY), idle_chain(Rule([1, 0, 1])))

    def test_refuses(self):
        for value in ANYTHING + ((1, 0, 1), "1 0 1"):
            self.refuses(BadRule, ("rule",), idle_store, value)
            self.refuses(BadRule, ("rule",), idle_chain, value)


class Beside(Refusals, unittest.TestCase):
    def test_walked(self):
        for rule in SOME_RULES[::2]:
            for store in ENDLESS:
                chain = beside_idle(rule, store)
                self.assertEqual(chain, beside_idle(rule, Store(list(store.counts))))
                walk(self, chain, store, store.plus(idle_store(rule)))

    def test_at_the_bound(self):
        for rule in ALL_RULES[::9]:
            chain = beside_idle(rule, power_of(30))
            self.assertEqual(chain.end, power_of(30).plus(idle_store(rule)))
        for store in (power_of(31), Store([1] * 32), power_of(40)):
            self.refuses(TooMany, ("trees", 30), beside_idle, BINARY, store)

    def test_refused_in_order(self):
        for value in ANYTHING + ((1, 0, 1), "0 1"):
            self.refuses(BadRule, ("rule",), beside_idle, value, None)
            self.refuses(BadRule, ("rule",), beside_idle, value, power_of(31))
            self.refuses(BadStore, ("store",), beside_idle, BINARY, value)
        for finite in (Store([]), Store([4]), Store([10 ** 30])):
            self.refuses(BadStore, ("store",), beside_idle, BINARY, finite)
            self.refuses(BadRule, ("rule",), beside_idle, None, finite)
        self.assertEqual(beside_idle(store=X, rule=BINARY), beside_idle(BINARY, X))


class Opened(Refusals, unittest.TestCase):
    def test_walked(self):
        for rule in SOME_RULES[::4]:
            for store in ENDLESS:
                for number in range(21):
                    chain = opened_to(rule, store, number)
                    self.assertEqual((chain.rule, chain.begin), (rule, store))
                    self.assertTrue(all(way == 1 for way, _ in chain.steps))
                    self.assertTrue(chain.end.has((number, 0)))
                    if store.has((number, 0)):
                        self.assertEqual(chain.steps, ())
                    self.assertEqual(chain, opened_to(rule, store, number))
                    if number % 5 == len(store.counts) % 5:
                        walk(self, chain, store, chain.end)

    def test_all_rules(self):
        for rule in ALL_RULES[::9]:
            for store, number in ((X, 20), (X, 0), (power_of(30), 0), (power_of(30), 20), (power_of(20), 19),
                                  (idle_store(rule), 20), (idle_store(rule), 5)):
                self.assertTrue(opened_to(rule, store, number).end.has((number, 0)))

    def test_numbers_at_their_bounds(self):
        for value in (-1, 21, 10 ** 30, True, False, None, "1", 1.0, (), [1]):
            self.refuses(BadNumber, ("number",), opened_to, BINARY, X, value)
        self.assertEqual(opened_to(number=0, store=Store([1, 1]), rule=BINARY), Chain(BINARY, Store([1, 1]), []))

    def test_refused_in_order(self):
        for value in ANYTHING + ((1, 0, 1), "0 1"):
            self.refuses(BadRule, ("rule",), opened_to, value, None, None)
            self.refuses(BadRule, ("rule",), opened_to, value, power_of(31), 21)
            self.refuses(BadStore, ("store",), opened_to, BINARY, value, None)
            self.refuses(BadStore, ("store",), opened_to, BINARY, value, 21)
        for finite in (Store([]), Store([4])):
            self.refuses(BadStore, ("store",), opened_to, BINARY, finite, 0)
            self.refuses(BadStore, ("store",), opened_to, BINARY, finite, -1)
        for store in (power_of(31), Store([1] * 32), power_of(40)):
            self.refuses(TooMany, ("trees", 30), opened_to, BINARY, store, 20)
            self.refuses(BadNumber, ("number",), opened_to, BINARY, store, 21)
            self.refuses(BadNumber, ("number",), opened_to, BINARY, store, None)
        self.refuses(TooMany, ("trees", 30), opened_to, BINARY, Store([1] * 32), 1)


if __name__ == "__main__":
    unittest.main()
