import unittest

import listing
import tabling
from helpers import ANYTHING, Refusals
from sevenasone.between import chain_between
from sevenasone.chains import Chain
from sevenasone.errors import BadChain, BadRule, BadStore, TooMany
from sevenasone.idle import idle_chain
from sevenasone.lots import hole_counts
from sevenasone.made import nothing_done, table_of
from sevenasone.rules import Rule
from sevenasone.same import same
from sevenasone.stores import Store, power_of
from sevenasone.tables import Table
from test_chains import RULES, some_chain, some_chains
from test_tables import BINARY, FORK, LEAF, OPENED, X, things_of


def by_steps(chain):
    """The table that does nothing, with those of the steps put behind it, one behind another."""
    table, store = nothing_done(chain.rule, chain.begin), chain.begin.counts
    for step in chain.steps:
        pairs, behind = tabling.step_pairs(chain.rule.counts, store, step)
        table = table.then(Table(chain.rule, Store(store), Store(behind), pairs))
        store = behind
    return table


class NothingDone(Refusals, unittest.TestCase):
    def test_pairs(self):
        for rule in RULES:
            for counts in ([], [3], [0, 1], [2, 0, 2], [1, 3, 0, 1], [0] * 40 + [1]):
                table = nothing_done(rule, Store(counts))
                self.assertIs(type(table), Table)
                self.exactly(table.pairs, tuple(sorted(tabling.nothing(listing.boxes_alone(counts)))))
                self.assertEqual((table.one, table.other, table.layers), (Store(counts), Store(counts), 0))
                for thing in things_of(table, 8):
                    self.exactly(table.run(thing), thing)
                    self.exactly(table.back(thing), thing)
                self.assertEqual(table.backwards(), table)
                self.assertEqual(table, table_of(Chain(rule, Store(counts), [])))

    def test_most_boxes(self):
        for counts in ([400], [0, 400], [100, 0, 300], [0] * 40 + [400]):
            self.assertEqual(len(nothing_done(BINARY, Store(counts)).pairs), 400)
            more = Store(counts).plus(power_of(3))
            self.refuses(TooMany, ("pairs", 400), nothing_done, BINARY, more)
            self.refuses(TooMany, ("pairs", 400), table_of, Chain(BINARY, more, []))
        self.refuses(TooMany, ("pairs", 400), nothing_done, BINARY, Store([1, 10 ** 30]))
        self.refuses(TooMany, ("pairs", 400), table_of, Chain(BINARY, Store([1, 10 ** 30]), [(1, 1)]))

    def test_refused_in_order(self):
        for value in ANYTHING + ((1, 0, 1), "1 0 1"):
            self.refuses(BadRule, ("rule",), nothing_done, value, None)
            self.refuses(BadRule, ("rule",), nothing_done, value, Store([401]))
            self.refuses(BadStore, ("store",), nothing_done, BINARY, value)
            self.refuses(BadChain, ("chain",), table_of, value)
        self.refuses(BadChain, ("chain",), table_of, OPENED)


class OfChains(Refusals, unittest.TestCase):
    def test_step_by_step(self):
        for chain in some_chains():
            table = table_of(chain)
            self.assertIs(type(table), Table)
            self.assertEqual((table.rule, table.one, table.other), (chain.rule, chain.begin, chain.end))
            self.exactly(table.pairs, by_steps(chain).pairs)

    def test_things_run_and_back(self):
        for chain in some_chains():
            table = table_of(chain)
            for thing in things_of(table):
                self.exactly(table.run(thing), chain.run(thing))
                self.exactly(table.back(chain.run(thing)), thing)
            for thing in listing.things_up_to(chain.rule.counts, chain.end.counts, 4)[:25]:
                self.exactly(table.back(thing), chain.back(thing))

    def test_backwards_and_joined(self):
        for seed, chain in enumerate(some_chains()):
            self.assertEqual(table_of(chain.backwards()), table_of(chain).backwards())
            more = some_chain(chain.rule, chain.end, 4, seed)
            self.assertEqual(table_of(chain.joined(more)), table_of(chain).then(table_of(more)))

    def test_both_sides_come_of_openings(self):
        """The left patterns of opening begin, the right ones of opening end: as many by holes on both sides."""
        for chain in some_chains():
            table = table_of(chain)
            self.assertEqual(hole_counts(chain.rule, table.one, [pair[0] for pair in table.pairs]),
                             hole_counts(chain.rule, table.other, [pair[1] for pair in table.pairs]))

    def test_beside_a_store(self):
        for chain in list(some_chains())[::2]:
            for store in (X, Store([2, 1]), Store([0, 0, 3])):
                self.assertEqual(table_of(chain.beside(store)), nothing_done(chain.rule, store).beside(table_of(chain)))

    def test_under_more_trees(self):
        for chain in list(some_chains())[::3]:
            table, under = table_of(chain), table_of(chain.under(2))
            behind = ((), ())
            pairs = [((left[0] + 2, left[1]) + left[2:] + behind, (right[0] + 2, right[1]) + right[2:] + behind,
                      order + (len(order), len(order) + 1)) for left, right, order in table.pairs]
            self.exactly(under.pairs, tuple(sorted(pairs)))

    def test_one_step(self):
        self.assertEqual(table_of(Chain(BINARY, X, [(1, 1)])), OPENED)
        self.assertEqual(table_of(Chain(BINARY, OPENED.other, [(-1, 1)])), OPENED.backwards())
        three = table_of(Chain(Rule([1, 1, 1]), Store([0, 2]), [(1, 1)]))
        self.exactly(three.pairs, (((1, 0, ()), (1, 0, ()), (0,)), ((1, 1, LEAF), (0, 0), ()),
                                   ((1, 1, (1, 0, ())), (1, 1, ()), (0,)), ((1, 1, FORK), (2, 0, (), ()), (0, 1))))

    def test_steps_that_undo_one_another(self):
        chain = Chain(BINARY, X, [(1, 1), (1, 2), (-1, 2), (-1, 1)])
        table = table_of(chain)
        self.assertEqual(table.pairs, tuple(sorted(tabling.nothing(pair[0] for pair in table.pairs))))
        self.assertEqual((len(table.pairs), table.layers), (3, 2))
        self.assertTrue(same(table, nothing_done(BINARY, X)))

    def test_seven_trees_and_one(self):
        whole = chain_between(BINARY, power_of(7), X)
        table = table_of(whole)
        self.assertEqual(table, by_steps(whole))
        for thing in listing.things_up_to(BINARY.counts, power_of(7).counts, 11):
            self.exactly(table.run(thing), whole.run(thing))
        for thing in listing.things_up_to(BINARY.counts, X.counts, 11):
            self.exactly(table.back(thing), whole.back(thing))

    def test_too_many_pairs(self):
        """Just as many as are let, and some more: in the table that is returned."""
        chain = Chain(BINARY, Store([397, 1]), [(1, 1), (1, 2)])
        self.assertEqual(len(table_of(chain).pairs), 400)
        self.assertEqual(len(table_of(chain.joined(chain.backwards())).pairs), 400)
        for begin in ([398, 1], [400, 1], [10 ** 20, 1]):
            for steps in ([(1, 1), (1, 2)], [(1, 1), (1, 2), (-1, 2), (-1, 1)], [(1, 1), (1, 2), (1, 3)]):
                self.refuses(TooMany, ("pairs", 400), table_of, Chain(BINARY, Store(begin), steps))
        # All boxes with one tree are opened, and again closed: the pairs stay.
        great = Rule([3, 3, 3, 3, 3, 3])
        self.assertEqual(len(table_of(Chain(great, X, [(1, 1)] * 20)).pairs), 20 * 17 + 1)
        self.refuses(TooMany, ("pairs", 400), table_of, Chain(great, X, [(1, 1)] * 24))
        self.refuses(TooMany, ("pairs", 400), table_of, Chain(great, X, [(1, 1)] * 24 + [(-1, 1)] * 24))

    def test_too_many_layers(self):
        three = Rule([1, 1, 1])
        for depth in (50, 51):
            up = Chain(three, X, [(1, 1)] * depth)
            there = Chain(three, up.end, up.backwards().steps + up.steps)
            for chain in (up, up.backwards(), up.joined(up.backwards())):
                if depth == 50:
                    self.assertEqual(max(table_of(chain).layers, table_of(chain.backwards()).layers), 50)
                else:
                    self.refuses(TooMany, ("layers", 50), table_of, chain)
            # Here patterns are deep only on the way.
            self.assertEqual(table_of(there), nothing_done(three, up.end))
        up = Chain(three, X, [(1, 1)] * 199)
        self.refuses(TooMany, ("layers", 50), table_of, up)
        self.refuses(TooMany, ("pairs", 400), table_of, Chain(three, X, [(1, 1)] * 200))
        there = Chain(three, up.end, up.backwards().steps + up.steps)
        self.assertEqual(table_of(there), nothing_done(three, up.end))

    def test_a_thousand_steps(self):
        """In a short time: what goes wrong here takes minutes."""
        three = Rule([1, 1, 1])
        up = Chain(three, X, [(1, 1)] * 45)
        turns = Chain(three, up.end, [(-1, 1)] * 45 + [(1, 1)] * 45)
        chain = up
        while len(chain) + 90 <= 1000:
            chain = chain.joined(turns)
        self.assertEqual(table_of(chain), table_of(up))
        chain = Chain(BINARY, X, [(1, 1)] + [(1, 2), (-1, 2)] * 499)
        self.exactly(table_of(chain).pairs, table_of(Chain(BINARY, X, [(1, 1), (1, 2), (-1, 2)])).pairs)
        wide = Chain(three, Store([0, 296]), [(1, 1)] * 50 + [(-1, 1), (1, 1)] * 475)
        self.assertEqual(len(table_of(wide).pairs), 396)

    def test_idle_chains(self):
        for rule in RULES + [Rule([2, 0, 0, 0, 1, 1])]:
            chain = idle_chain(rule)
            table = table_of(chain)
            self.exactly(table.pairs, by_steps(chain).pairs)
            self.assertEqual(len(table.pairs), chain.end.many)


if __name__ == "__main__":
    unittest.main()
