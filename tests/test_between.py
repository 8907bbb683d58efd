import itertools
import random
import unittest

from helpers import ANYTHING, Refusals
from reckoning import added, product
from sevenasone.alike import Finite, Undivided, alike
from sevenasone.between import chain_between
from sevenasone.errors import BadRule, BadStore, Impossible, TooMany
from sevenasone.rules import Rule
from sevenasone.stores import Store, power_of
from test_alike import FINITE
from test_idle import ALL_RULES, BINARY, SOME_RULES, X
from test_powers import SIXTEEN
from walking import walk


def apart(rule, quotient, more):
    """Two endless stores of just so many boxes that the one less the other is p - x times the quotient."""
    change = product(rule.stepped, quotient)
    other = added(tuple(max(0, -number) for number in change), more)
    return Store(added(other, change)), Store(other)


def quotients(chosen, most):
    """Some counts whose numbers add up to this much at most, minus signs left out."""
    for _ in range(12):
        row = [0] * chosen.randrange(1, 6)
        for _ in range(chosen.randrange(1, most + 1)):
            row[chosen.randrange(len(row))] += chosen.choice((1, -1))
        if any(row):
            yield added(row, ())


class Between(Refusals, unittest.TestCase):
    def goes(self, rule, one, other):
        chain = chain_between(rule, one, other)
        walk(self, chain, one, other)
        self.assertEqual(chain_between(rule, Store(list(one.counts)), Store(list(other.counts))), chain)
        back = chain_between(rule, other, one)
        walk(self, back, other, one)
        walk(self, chain.backwards(), other, one)
        return chain

    def test_seven_trees_and_one(self):
        self.goes(BINARY, power_of(7), X)

    def test_stores_apart_by_some_counts(self):
        chosen = random.Random(8)
        for rule in SOME_RULES[::2]:
            for quotient in quotients(chosen, 5):
                one, other = apart(rule, quotient, chosen.choice(((0, 1), (3, 0, 0, 1), (0, 0, 1))))
                self.goes(rule, one, other)

    def test_least_stores_apart(self):
        for rule in (BINARY, Rule([2, 1, 2]), Rule([1, 2, 1])):
            for quotient in itertools.product((-1, 0, 1), repeat=3):
                one, other = apart(rule, added(quotient, ()), ())
                if one.is_endless and other.is_endless:
                    self.goes(rule, one, other)

    def test_powers_that_come_round(self):
        for counts, (number, _) in SIXTEEN.items():
            rule = Rule(counts)
            for one in range(1, 13):
                for other in range(one, 13):
                    if (other - one) % number == 0:
                        paper = alike(rule, power_of(other), power_of(one))
                        if sum(map(abs, paper.quotient)) <= 10:
                            self.goes(rule, power_of(other), power_of(one))
                        else:
                            self.refuses(TooMany, ("quotient", 10), chain_between, rule, power_of(one), power_of(other))

    def test_equal_ones(self):
        for rule in SOME_RULES[::4]:
            for store in FINITE + [X, Store([1] * 13), power_of(12), Store([10 ** 5000, 1])]:
                chain = chain_between(rule, store, Store(list(store.counts)))
                self.assertEqual((chain.steps, chain.begin, chain.end), ((), store, store))

    def test_as_much_as_is_let_by_all_rules(self):
        """Ten idle stores, the most trees in boxes: such a chain stays within a thousand steps and forty trees."""
        for rule in ALL_RULES[::41] + SOME_RULES[::2]:
            degree = 12 - rule.top
            for quotient in ((0,) * degree + (10,), (5,) + (0,) * (degree - 1) + (-5,), (-10,), (10,), (3, -7)):
                for more in ((0,) * 12 + (1,), (0, 1)):
                    one, other = apart(rule, quotient, more)
                    for begin, end in ((one, other), (other, one)):
                        chain = chain_between(rule, begin, end)
                        self.assertEqual((chain.begin, chain.end), (begin, end))
                        self.assertLessEqual(max(len(store.counts) for store in chain.stores()), 41)

    def test_ten_and_eleven(self):
        for quotient in ((10,), (-4, 3, 0, -3), (1,) * 9 + (-1,)):
            one, other = apart(BINARY, quotient, (0, 1))
            chain = chain_between(BINARY, one, other)
            self.assertEqual((chain.begin, chain.end), (one, other))
        for quotient in ((11,), (-4, 3, 0, -4), (1,) * 9 + (-2,), (10 ** 30,)):
            one, other = apart(BINARY, quotient, (0, 1))
            self.refuses(TooMany, ("quotient", 10), chain_between, BINARY, one, other)
            self.refuses(TooMany, ("quotient", 10), chain_between, BINARY, other, one)

    def test_many_boxes(self):
        many = 10 ** 20
        one, other = apart(BINARY, (1, -1), (many, many, 0, many))
        chain = chain_between(BINARY, one, other)
        self.assertEqual((chain.begin, chain.end), (one, other))
        leaf = (0, 0)
        for thing in ((0, 0), (0, many - 1), (1, 7, leaf), (1, many - 1, leaf), (3, many - 1, leaf, leaf, leaf)):
            self.assertEqual(chain.back(chain.run(thing)), thing)

    def test_twelve_trees_and_thirteen(self):
        for store in (power_of(13), Store([1] * 14), power_of(40)):
            for other in (store, X, Store([5]), power_of(12)):
                self.refuses(TooMany, ("trees", 12), chain_between, BINARY, store, other)
                self.refuses(TooMany, ("trees", 12), chain_between, BINARY, other, store)
        self.assertEqual(chain_between(BINARY, power_of(12), power_of(6)).end, power_of(6))

    def refused_with(self, paper, rule, one, other):
        with self.assertRaises(Impossible) as caught:
            chain_between(rule, one, other)
        self.assertEqual(caught.exception.paper, paper)
        self.assertIs(type(caught.exception.paper), type(paper))
        self.assertEqual(paper, alike(rule, one, other))

    def test_what_no_chain_leads_between(self):
        self.refused_with(Undivided((-1,)), BINARY, power_of(2), X)
        self.refused_with(Finite("one"), BINARY, Store([1]), power_of(6))
        self.refused_with(Finite("other"), BINARY, power_of(6), Store([1]))
        self.refused_with(Finite("both"), BINARY, Store([1]), Store([2]))
        self.refused_with(Finite("both"), BINARY, Store([]), Store([2]))
        self.refused_with(Undivided((1, 0, 1)), Rule([2, 1, 2]), Store([1, 1, 1]), X)
        one, other = apart(BINARY, (11,), (0, 1))
        self.refused_with(Undivided((1,)), BINARY, one.plus(Store([1])), other)

    def test_refused_in_order(self):
        for value in ANYTHING + ((1, 0, 1), "0 1"):
            self.refuses(BadRule, ("rule",), chain_between, value, None, None)
            self.refuses(BadRule, ("rule",), chain_between, value, power_of(13), X)
            self.refuses(BadStore, ("one",), chain_between, BINARY, value, None)
            self.refuses(BadStore, ("one",), chain_between, BINARY, value, power_of(13))
            self.refuses(BadStore, ("other",), chain_between, BINARY, X, value)
            self.refuses(BadStore, ("other",), chain_between, BINARY, power_of(13), value)
        self.assertEqual(chain_between(other=X, one=power_of(7), rule=BINARY), chain_between(BINARY, power_of(7), X))


if __name__ == "__main__":
    unittest.main()
