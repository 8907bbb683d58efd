import random
import unittest

import listing
from helpers import ANYTHING, Refusals
from sevenasone.errors import BadNumber, BadRule, BadStore, BadThing, TooMany
from sevenasone.numbered import number_of, thing_at
from sevenasone.rules import Rule
from sevenasone.sizes import things_of
from sevenasone.stores import Store, power_of
from sevenasone.things import is_thing, thing_size

RULES = [Rule(counts) for counts in ([1, 0, 1], [1, 1, 1], [2, 1, 3], [1, 0, 0, 1], [2, 2, 0, 1], [1, 0, 0, 0, 0, 1],
                                     [3, 3, 3, 3, 3, 3])]
STORES = [Store(counts) for counts in ([], [3], [0, 1], [2, 0, 2], [1, 3, 0, 2], [0] * 7 + [1], [0, 10 ** 30, 0, 4])]
BINARY, X, LEAF = RULES[0], Store([0, 1]), (0, 0)


class Numbered(Refusals, unittest.TestCase):
    def test_all_things_of_small_sizes_in_order(self):
        for rule in RULES:
            for store in STORES[:6]:
                size, asked = 0, 0
                while size < 10 and asked < 300:
                    things = listing.things_of(rule.counts, store.counts, size)
                    for number, thing in list(enumerate(things))[:400]:
                        self.exactly(thing_at(rule, store, size, number), thing)
                        self.exactly(number_of(rule, store, thing), number)
                        self.exactly(number_of(rule, store, listing.listed(thing)), number)
                    self.refuses(BadNumber, ("number",), thing_at, rule, store, size, len(things))
                    size, asked = size + 1, asked + len(things)

    def test_drawn_numbers_at_great_sizes(self):
        chosen = random.Random(1)
        for rule in RULES:
            for store in STORES + [power_of(24), power_of(40), Store([1] * 41)]:
                for size in (7, 12, 19, 23, 24):
                    many = things_of(rule, store, size)
                    numbers = sorted({0, many - 1, many // 2, *(chosen.randrange(many) for _ in range(6))}) if many else []
                    found = [thing_at(rule, store, size, number) for number in numbers]
                    for number, thing in zip(numbers, found):
                        self.assertTrue(is_thing(rule, store, thing))
                        self.assertEqual(thing_size(rule, store, thing), size)
                        self.exactly(number_of(rule, store, thing), number)
                    self.assertEqual(found, sorted(found))
                    for number in (many, many + 1, -1, 10 ** 5000):
                        self.refuses(BadNumber, ("number",), thing_at, rule, store, size, number)

    def test_neighbours(self):
        """Behind the last thing of a box comes the first one of the next box, of those with as many trees or more."""
        store = Store([2, 0, 3, 1])
        rows = len(listing.rows_of(BINARY.counts, 2, 8))
        for number in range(3 * rows):
            self.assertEqual(thing_at(BINARY, store, 8, number)[:2], (2, number // rows))
        self.exactly(thing_at(BINARY, store, 0, 1), (0, 1))
        self.refuses(BadNumber, ("number",), thing_at, BINARY, store, 0, 2)
        self.refuses(BadNumber, ("number",), thing_at, BINARY, store, 8, 3 * rows)
        self.assertEqual(thing_at(BINARY, store, 9, 0)[:2], (3, 0))

    def test_numbers_that_are_none(self):
        for value in [one for one in ANYTHING if type(one) is not int or not 0 <= one <= 24] + [25, -1, 10 ** 5000, 5.0]:
            self.refuses(BadNumber, ("size",), thing_at, BINARY, X, value, 0)
            self.refuses(BadNumber, ("size",), thing_at, BINARY, X, value, None)
        for value in [one for one in ANYTHING if type(one) is not int or not 0 <= one <= 1] + [2, -1, 1.0]:
            self.refuses(BadNumber, ("number",), thing_at, BINARY, X, 5, value)
        self.refuses(BadNumber, ("number",), thing_at, BINARY, X, 4, 0)
        self.refuses(BadNumber, ("number",), thing_at, BINARY, Store([]), 0, 0)
        self.refuses(BadNumber, ("number",), thing_at, BINARY, Store([3]), 1, 0)

    def test_things_of_more_than_twenty_four_knots(self):
        line = LEAF
        for _ in range(11):
            line = (2, 0, LEAF, line)
        self.exactly(number_of(BINARY, Store([0, 0, 1]), (2, 0, LEAF, line)), 0)
        number = number_of(BINARY, Store([0, 0, 1]), (2, 0, line, LEAF))
        self.exactly(thing_at(BINARY, Store([0, 0, 1]), 24, number), (2, 0, line, LEAF))
        for thing in ((2, 0, line, (2, 0, LEAF, LEAF)), (2, 0, (2, 0, line, LEAF), LEAF)):
            self.refuses(TooMany, ("size", 24), number_of, BINARY, Store([0, 0, 1]), thing)
        self.refuses(TooMany, ("size", 24), number_of, BINARY, power_of(25), (25, 0) + (LEAF,) * 25)
        self.exactly(number_of(BINARY, power_of(24), (24, 0) + (LEAF,) * 24), 0)
        tree = LEAF
        for _ in range(12):
            tree = (2, 0, tree, tree)
        self.refuses(TooMany, ("size", 24), number_of, BINARY, X, (1, 0, tree))

    def test_refused_in_order(self):
        for value in ANYTHING + ((1, 0, 1), "1 0 1"):
            self.refuses(BadRule, ("rule",), thing_at, value, None, None, None)
            self.refuses(BadStore, ("store",), thing_at, BINARY, value, None, None)
            self.refuses(BadRule, ("rule",), number_of, value, None, None)
            self.refuses(BadStore, ("store",), number_of, BINARY, value, None)
            self.refuses(BadThing, ("thing",), number_of, BINARY, X, value)
        for value in ((1, 1, LEAF), (0, 0), (1, 0, (0, 1)), (1, 0, ()), (1, 0, (2, 0, LEAF, ())), (1, 0) + (LEAF,) * 30):
            self.refuses(BadThing, ("thing",), number_of, BINARY, X, value)
        self.exactly(thing_at(number=1, size=5, store=X, rule=BINARY), (1, 0, (2, 0, (2, 0, LEAF, LEAF), LEAF)))
        self.exactly(number_of(thing=(1, 0, LEAF), store=X, rule=BINARY), 0)


if __name__ == "__main__":
    unittest.main()
