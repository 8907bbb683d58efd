import unittest

import listing
from helpers import ANYTHING, Refusals
from sevenasone.errors import BadNumber, BadRule, BadStore
from sevenasone.rules import Rule
from sevenasone.sizes import things_of, trees_of, unlike_size
from sevenasone.steps import can_step, step_store
from sevenasone.stores import Store, power_of

RULES = [Rule(counts) for counts in ([1, 0, 1], [1, 1, 1], [2, 1, 3], [1, 0, 0, 1], [2, 2, 0, 1], [1, 0, 0, 0, 0, 1],
                                     [3, 3, 3, 3, 3, 3], [3, 0, 0, 0, 2])]
STORES = [Store(counts) for counts in ([], [3], [0, 1], [2, 0, 1], [1, 3, 0, 2], [0] * 7 + [1], [10 ** 30, 0, 10 ** 30])]
BINARY = RULES[0]


def rows_by_trees(counts, most):
    """For each size, how many rows of so many trees there are: by the first knot, whose parts stand in its place."""
    table = [[1] + [0] * most]
    for _ in range(most):
        ahead = table[-1] + [0] * len(counts)
        table.append([0] + [sum(many * ahead[trees - 1 + parts] for parts, many in enumerate(counts))
                            for trees in range(1, most + 1)])
    return table


class Sizes(Refusals, unittest.TestCase):
    def test_listed_trees_and_things(self):
        for rule in RULES:
            for size in range(8 if sum(rule.counts) < 10 else 4):
                self.exactly(trees_of(rule, size), len(listing.trees_of(rule.counts, size)))
                for store in STORES[:5]:
                    self.exactly(things_of(rule, store, size), len(listing.things_of(rule.counts, store.counts, size)))

    def test_to_size_two_hundred(self):
        for rule in RULES:
            table = rows_by_trees(rule.counts, 205)
            for size in (list(range(12)) + [24, 25, 57, 100, 150, 199, 200]):
                self.exactly(trees_of(rule, size), table[size][1])
                for store in STORES + [power_of(40), Store([1] * 41), Store([0] * 40 + [10 ** 60])]:
                    expected = sum(boxes * table[size][trees] for trees, boxes in enumerate(store.counts))
                    self.exactly(things_of(rule, store, size), expected)

    def test_all_sizes_in_a_short_time(self):
        for rule in RULES:
            table = rows_by_trees(rule.counts, 205)
            self.assertEqual([trees_of(rule, size) for size in range(201)], [table[size][1] for size in range(201)])

    def test_known_ones(self):
        self.assertEqual([trees_of(BINARY, size) for size in range(1, 20, 2)], [1, 1, 2, 5, 14, 42, 132, 429, 1430, 4862])
        self.assertEqual([trees_of(BINARY, size) for size in range(0, 200, 2)], [0] * 100)
        self.assertEqual([trees_of(Rule([1, 1, 1]), size) for size in range(10)], [0, 1, 1, 2, 4, 9, 21, 51, 127, 323])
        self.assertEqual([things_of(BINARY, Store([4]), size) for size in range(4)], [4, 0, 0, 0])
        self.assertEqual([things_of(BINARY, Store([]), size) for size in range(4)], [0] * 4)

    def test_stores_added_multiplied_opened(self):
        for rule in RULES:
            for one in STORES[:6]:
                for other in STORES[:5]:
                    for size in (0, 1, 2, 5, 9, 14):
                        self.assertEqual(things_of(rule, one.plus(other), size),
                                         things_of(rule, one, size) + things_of(rule, other, size))
                        both = sum(things_of(rule, one, first) * things_of(rule, other, size - first)
                                   for first in range(size + 1))
                        self.assertEqual(things_of(rule, one.times(other), size), both)
                for trees in range(1, 8):
                    if can_step(rule, one, (1, trees)):
                        opened = step_store(rule, one, (1, trees))
                        for size in (1, 4, 9, 30):
                            # Of the box that goes each thing has a knot less.
                            change = things_of(rule, power_of(trees), size + 1) - things_of(rule, power_of(trees), size)
                            self.assertEqual(things_of(rule, opened, size), things_of(rule, one, size) + change)

    def test_unlike_sizes(self):
        for rule in RULES:
            for one in STORES + [Store([0, 0, 1]), Store([0, 0, 0, 1, 5]), power_of(40)]:
                for other in STORES + [Store([0, 0, 2]), Store([0, 0, 0, 1, 4]), Store([0, 0, 0, 1])]:
                    size = unlike_size(rule, one, other)
                    self.exactly(size, unlike_size(rule, other, one))
                    if one == other:
                        self.assertIsNone(size)
                        continue
                    for less in range(size):
                        self.assertEqual(things_of(rule, one, less), things_of(rule, other, less))
                    self.assertNotEqual(things_of(rule, one, size), things_of(rule, other, size))
        self.exactly(unlike_size(BINARY, power_of(40), Store([])), 40)
        self.exactly(unlike_size(BINARY, Store([1]), Store([2])), 0)

    def test_refused_in_order(self):
        for value in ANYTHING + ((1, 0, 1), "1 0 1"):
            self.refuses(BadRule, ("rule",), trees_of, value, None)
            self.refuses(BadRule, ("rule",), trees_of, value, 5)
            self.refuses(BadRule, ("rule",), things_of, value, None, None)
            self.refuses(BadRule, ("rule",), unlike_size, value, None, None)
            self.refuses(BadStore, ("store",), things_of, BINARY, value, None)
            self.refuses(BadStore, ("store",), things_of, BINARY, value, 5)
            self.refuses(BadStore, ("one",), unlike_size, BINARY, value, None)
            self.refuses(BadStore, ("other",), unlike_size, BINARY, STORES[0], value)
        for value in [one for one in ANYTHING if type(one) is not int or not 0 <= one <= 200] + [201, -1, 10 ** 5000, 3.0]:
            self.refuses(BadNumber, ("size",), trees_of, BINARY, value)
            self.refuses(BadNumber, ("size",), things_of, BINARY, STORES[2], value)
        self.assertEqual(things_of(size=9, store=power_of(7), rule=BINARY), 7)
        self.assertEqual((trees_of(size=5, rule=BINARY), unlike_size(other=power_of(2), one=power_of(5), rule=BINARY)), (2, 2))


if __name__ == "__main__":
    unittest.main()
