"""What the whole program does together: powers of X turned into one another, by chain and by table."""

import unittest

import listing
from helpers import Refusals
from sevenasone.alike import alike
from sevenasone.between import chain_between
from sevenasone.chains import Chain, Led
from sevenasone.check_chains import shows_led
from sevenasone.errors import Impossible, TooMany
from sevenasone.looks import Looked, looks, number_by
from sevenasone.made import nothing_done, table_of
from sevenasone.powers import alike_powers, powers
from sevenasone.rules import Rule
from sevenasone.same import Same, same
from sevenasone.stores import Store, power_of
from sevenasone.tables import Table
from test_powers import SIXTEEN

BINARY, X, LEAF = Rule([1, 0, 1]), power_of(1), (0, 0)
NEVER = ([1, 0, 2], [1, 3, 1], [2, 0, 0, 1], [1, 1, 2], [1, 0, 0, 1], [3, 3, 3], [1, 0, 0, 0, 0, 1], [2, 2, 1, 1])


def great_tree(rule, layers):
    tree = LEAF
    for _ in range(layers):
        tree = rule.knots[-1] + (tree,) + (LEAF,) * (rule.top - 2) + (tree,)
    return tree


def some_things(rule, store, most):
    """The things of the least sizes: so many, or a few more, and one with great trees."""
    found, size = [], 0
    while len(found) < most:
        found += listing.things_of(rule.counts, store.counts, size)
        size += 1
    trees = store.counts.index(1)
    return found + [(trees, 0) + (great_tree(rule, 5),) * trees, (trees, 0) + (LEAF,) * (trees - 1) + (great_tree(rule, 8),)]


class Whole(Refusals, unittest.TestCase):
    def turned(self, rule, one, other):
        """By chain and by table all things of one store become those of the other one, each from just one."""
        chain = chain_between(rule, one, other)
        table = table_of(chain)
        self.assertIs(shows_led(rule, one, other, Led(chain.steps)), True)
        things = some_things(rule, one, 60)
        came = [chain.run(thing) for thing in things]
        self.exactly([table.run(thing) for thing in things], came)
        self.exactly([chain.back(thing) for thing in came], things)
        self.exactly([table.back(thing) for thing in came], things)
        self.assertEqual(len(set(came)), len(came))
        for thing in some_things(rule, other, 30):
            self.exactly(table.back(thing), chain.back(thing))
            self.exactly(chain.run(chain.back(thing)), thing)
        return chain, table

    def test_powers_that_come_round(self):
        for counts, (number, _) in SIXTEEN.items():
            rule = Rule(counts)
            if number < 12:
                # From two trees on the last of these rules wants too many pairs.
                for least in (1, 2) if sum(counts) < 11 else (1,):
                    chain, table = self.turned(rule, power_of(least + number), power_of(least))
                    self.assertEqual(table_of(chain.backwards()), table.backwards())
                    self.assertEqual(same(table.then(table.backwards()), nothing_done(rule, table.one)), Same())
                    self.assertEqual(same(table.backwards().then(table), nothing_done(rule, table.other)), Same())
            else:
                self.refuses(TooMany, ("trees", 12), chain_between, rule, power_of(1 + number), X)

    def test_powers_that_do_not(self):
        for counts, (number, _) in list(SIXTEEN.items())[::2]:
            for apart in range(1, min(number, 9)):
                self.never(Rule(counts), apart)
        for counts in NEVER:
            self.assertFalse(powers(Rule(counts)))
            for apart in range(1, 10):
                self.never(Rule(counts), apart)

    def never(self, rule, apart):
        one, other = power_of(2 + apart), power_of(2)
        self.assertIs(alike_powers(rule, 2 + apart, 2), False)
        self.refuses(Impossible, (alike(rule, one, other),), chain_between, rule, one, other)
        self.refuses(Impossible, (alike(rule, other, one),), chain_between, rule, other, one)

    def test_chains_joined(self):
        """By way of the middle one, and straight: each as a chain and as tables put behind one another."""
        for counts, number in (((1, 1, 1), 4), ((1, 2, 1), 3), ((1, 0, 1), 6), ((1, 2, 1, 1), 4)):
            rule = Rule(counts)
            most = min(12, 2 * number + 2)
            stores = [power_of(trees) for trees in (2, 2 + number, most - (most - 2) % number)]
            chains = [chain_between(rule, one, other) for one, other in zip(stores, stores[1:])]
            joined = chains[0].joined(chains[1])
            tables = [table_of(chain) for chain in chains]
            both = tables[0].then(tables[1])
            self.assertEqual(table_of(joined), both)
            for thing in some_things(rule, stores[0], 80):
                self.exactly(both.run(thing), chains[1].run(chains[0].run(thing)))
                self.exactly(both.run(thing), joined.run(thing))
                self.exactly(both.back(both.run(thing)), thing)
            straight = table_of(chain_between(rule, stores[0], stores[2]))
            paper = same(both, straight)
            self.assertTrue(paper or both.run(paper.thing) != straight.run(paper.thing))

    def test_seven_trees_as_one_beside_others(self):
        chain, table = self.turned(BINARY, power_of(7), X)
        store = Store([1, 2])
        self.assertEqual(table_of(chain.beside(store)), nothing_done(BINARY, store).beside(table))
        one, other = power_of(7).plus(store), X.plus(store)
        beside = table.beside(nothing_done(BINARY, store))
        self.assertEqual((beside.one, beside.other), (one, other))
        straight = table_of(chain_between(BINARY, one, other))
        self.assertEqual((straight.one, straight.other), (one, other))
        paper = same(beside, straight)
        self.assertTrue(paper or beside.run(paper.thing) != straight.run(paper.thing))

    def test_lots_of_tables_are_read(self):
        """Both sides of a chain's table come of openings: so they are read, if their patterns are not too great."""
        for counts in ((1, 1, 1), (1, 2, 1), (1, 0, 1), (1, 2, 1, 1)):
            rule = Rule(counts)
            number = powers(rule).number
            chain = chain_between(rule, power_of(1 + number), X)
            table = table_of(chain)
            for store, side in ((table.one, 0), (table.other, 1)):
                lot = [pair[side] for pair in table.pairs]
                if max(map(listing.knots_of, lot)) <= 25:
                    paper = looks(rule, store, lot)
                    self.assertIs(type(paper), Looked)
                    for thing in some_things(rule, store, 20):
                        place, many = number_by(rule, store, lot, paper.ways, thing)
                        self.assertTrue(listing.fits(lot[place], thing))
                        self.assertEqual(many, listing.knots_of(lot[place]) - 1)

    def test_a_table_of_no_chain_that_is_written_down(self):
        """The table that exchanges two trees is the one of no step; opened, it is one of many that do the same."""
        two = Store([0, 0, 1])
        turned = Table(BINARY, two, two, [((2, 0, (), ()), (2, 0, (), ()), (1, 0))])
        self.assertEqual(same(turned.then(turned), nothing_done(BINARY, two)), Same())
        chain = Chain(BINARY, two, [(1, 2), (-1, 2)])
        self.assertEqual(same(table_of(chain).then(turned), turned), Same())
        self.assertEqual(same(table_of(chain), turned).word, "parted")


if __name__ == "__main__":
    unittest.main()
