import unittest

from helpers import ANYTHING, Refusals
from sevenasone.alike import alike
from sevenasone.contraries import contrary, contrary_of
from sevenasone.errors import BadNumber, BadRule, BadStore, TooMany
from sevenasone.idle import idle_store
from sevenasone.rules import Rule
from sevenasone.stores import Store, power_of
from test_idle import ALL_RULES, BINARY, SOME_RULES, X
from walking import walk

STORES = [Store(counts) for counts in ([], [1], [7], [2, 1], [0, 1], [0, 0, 0, 2], [1, 2, 3], [0] * 20 + [1],
                                       [1] * 21, [10 ** 30, 0, 10 ** 30], [0, 0, 0, 0, 0, 0, 5])]


class Contraries(Refusals, unittest.TestCase):
    def test_of_boxes(self):
        for rule in SOME_RULES[::3]:
            idle = idle_store(rule)
            for number in range(21):
                pair = contrary(rule, number)
                self.assertIs(type(pair), tuple)
                found, chain = pair
                self.assertIs(type(found), Store)
                walk(self, chain, idle, found.plus(power_of(number)))
                self.assertTrue(alike(rule, found.plus(power_of(number)), idle))
                self.assertEqual(contrary(rule, number), pair)

    def test_of_boxes_by_all_rules(self):
        for rule in ALL_RULES[::5]:
            idle = idle_store(rule)
            for number in (0, 1, 2, 11, 20):
                found, chain = contrary(rule, number)
                self.assertEqual((chain.begin, chain.end), (idle, found.plus(power_of(number))))

    def test_of_stores(self):
        for rule in SOME_RULES:
            idle = idle_store(rule)
            for store in STORES:
                found = contrary_of(rule, store)
                self.assertIs(type(found), Store)
                self.assertTrue(found.is_endless)
                self.assertTrue(alike(rule, store.plus(found), idle))
                self.assertEqual(contrary_of(rule, Store(list(store.counts))), found)

    def test_of_boxes_that_the_idle_store_has(self):
        for rule in SOME_RULES:
            idle = idle_store(rule)
            for trees, boxes in enumerate(idle.counts):
                for many in {1, boxes, 3} if boxes else ():
                    store = Store([0] * trees + [many])
                    self.assertTrue(contrary_of(rule, store).is_endless)
                    self.assertTrue(alike(rule, store.plus(contrary_of(rule, store)), idle))

    def test_of_stores_put_together(self):
        for rule in SOME_RULES[::3]:
            idle = idle_store(rule)
            for one in STORES[:8]:
                for other in STORES[:8]:
                    both = contrary_of(rule, one).plus(contrary_of(rule, other))
                    self.assertTrue(alike(rule, one.plus(other).plus(both), idle))
                    self.assertTrue(alike(rule, both, contrary_of(rule, one.plus(other))))

    def test_a_store_put_to_its_contrary_leaves_others_alike(self):
        for rule in SOME_RULES[::3]:
            for store in STORES:
                both = store.plus(contrary_of(rule, store))
                for more in (X, Store([2, 0, 1]), power_of(12)):
                    self.assertTrue(alike(rule, more, both.plus(more)))

    def test_of_boxes_refuses(self):
        for value in ANYTHING + ((1, 0, 1), "1 0 1"):
            self.refuses(BadRule, ("rule",), contrary, value, 1)
            self.refuses(BadRule, ("rule",), contrary, value, 21)
        for value in (-1, 21, 10 ** 30, True, False, None, "1", 1.0, (), [1]):
            self.refuses(BadNumber, ("number",), contrary, BINARY, value)
        self.assertEqual(contrary(number=3, rule=BINARY), contrary(BINARY, 3))

    def test_of_stores_refuses_in_order(self):
        for value in ANYTHING + ((1, 0, 1), "0 1"):
            self.refuses(BadRule, ("rule",), contrary_of, value, X)
            self.refuses(BadRule, ("rule",), contrary_of, value, power_of(21))
            self.refuses(BadRule, ("rule",), contrary_of, value, None)
            self.refuses(BadStore, ("store",), contrary_of, BINARY, value)
        for store in (power_of(21), Store([1] * 22), power_of(40)):
            self.refuses(TooMany, ("trees", 20), contrary_of, BINARY, store)
        self.assertEqual(contrary_of(store=X, rule=BINARY), contrary_of(BINARY, X))


class Boxes(unittest.TestCase):
    def test_a_thousand_boxes(self):
        for rule in (BINARY, Rule([3, 0, 0, 0, 0, 3])):
            store = Store([50] * 20)
            self.assertTrue(alike(rule, store.plus(contrary_of(rule, store)), idle_store(rule)))


if __name__ == "__main__":
    unittest.main()
