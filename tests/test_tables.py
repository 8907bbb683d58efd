import itertools
import random
import unittest

import listing
import tabling
from helpers import ANYTHING, Refusals
from sevenasone.chains import Chain
from sevenasone.errors import BadLot, BadRule, BadStore, BadTable, BadThing, Misfit, TooMany
from sevenasone.made import nothing_done
from sevenasone.patterns import common
from sevenasone.rules import Rule
from sevenasone.stores import Store, power_of
from sevenasone.tables import Table
from sevenasone.things import is_thing, shifted

RULES = [Rule(counts) for counts in ([1, 0, 1], [1, 1, 1], [2, 0, 1], [1, 0, 0, 1], [2, 1, 1], [1, 0, 0, 0, 0, 1])]
STORES = [Store(counts) for counts in ([0, 1], [0, 0, 1], [1, 2], [0, 0, 0, 1], [2, 0, 2], [1, 1, 1], [3], [])]
BINARY, X, TWO = RULES[0], Store([0, 1]), Store([0, 0, 1])
LEAF, FORK = (0, 0), (2, 0, (), ())
OPENED = Table(BINARY, X, Store([1, 0, 1]), [((1, 0, LEAF), (0, 0), ()), ((1, 0, FORK), (2, 0, (), ()), (0, 1))])
FLIP = Table(BINARY, X, X, [((1, 0, LEAF), (1, 0, LEAF), ()), ((1, 0, FORK), (1, 0, FORK), (1, 0))])
WHEEL = Table(BINARY, X, X, [((1, 0, LEAF), (1, 0, LEAF), ()),
                             ((1, 0, (2, 0, LEAF, ())), (1, 0, (2, 0, (), LEAF)), (0,)),
                             ((1, 0, (2, 0, FORK, ())), (1, 0, (2, 0, (), FORK)), (0, 1, 2))])
WHOLE = ((1, 0, ()), (1, 0, ()), (0,))
WINDING = [(3, 0, FORK, LEAF, ()), (3, 0, (), FORK, LEAF), (3, 0, LEAF, (), FORK), (3, 0, LEAF, LEAF, LEAF),
           (3, 0, FORK, FORK, FORK)]


def some_tables(seed, often=6):
    """Tables of all rules and stores, from a store to itself and to another one."""
    chosen = random.Random(seed)
    for rule in RULES:
        for store in STORES:
            pairs = tabling.some_pairs(rule.counts, store.counts, chosen.randrange(often), chosen)
            table = Table(rule, store, store, pairs)
            yield table
            if store.is_endless:
                step = (1, chosen.choice([trees for trees, boxes in enumerate(store.counts) if trees and boxes]))
                pairs, end = tabling.step_pairs(rule.counts, store.counts, step)
                yield table.then(Table(rule, store, Store(end), pairs))


def things_of(table, most=25):
    found = listing.things_up_to(table.rule.counts, table.one.counts, 7)
    return found[::1 + len(found) // most]


def layers_of(part):
    return 0 if part == () else 1 + max(map(layers_of, part[2:]), default=0)


def most_layers(patterns):
    return max((layers_of(part) for pattern in patterns for part in pattern[2:]), default=0)


def along(depth, hole):
    """Pairs that do nothing, opened so often, each time in the last tree: the last pattern has so many layers."""
    pairs, last = [], WHOLE
    for _ in range(depth):
        leafed, last = tabling.opened_pair(BINARY.counts, last, hole % len(last[2]))
        pairs.append(leafed)
    return pairs + [last]


class Made(Refusals, unittest.TestCase):
    def test_attributes(self):
        for table in some_tables(1):
            for pairs in (table.pairs, table.pairs[::-1], listing.listed(table.pairs)):
                again = Table(table.rule, table.one, table.other, pairs)
                self.assertEqual((again.rule, again.one, again.other), (table.rule, table.one, table.other))
                self.exactly(again.pairs, tuple(sorted(table.pairs)))
                self.exactly(again.layers, most_layers([pair[0] for pair in table.pairs]))
                self.assertTrue(again == table)

    def test_pairs_ascend(self):
        """Holes stand ahead of knots."""
        pairs = [((2, 0, FORK, ()), (2, 0, (), FORK), (2, 0, 1)), ((2, 0, LEAF, ()), (2, 0, (), LEAF), [0])]
        table = Table(BINARY, TWO, TWO, pairs)
        self.exactly(table.pairs, (((2, 0, LEAF, ()), (2, 0, (), LEAF), (0,)), pairs[0]))
        finite = Table(BINARY, Store([3]), Store([3]), [((0, 1), (0, 2), ()), ((0, 2), (0, 0), ()), ((0, 0), (0, 1), [])])
        self.exactly(finite.pairs, (((0, 0), (0, 1), ()), ((0, 1), (0, 2), ()), ((0, 2), (0, 0), ())))
        self.assertEqual(finite.layers, 0)
        self.exactly(Table(BINARY, Store([]), Store([]), []).pairs, ())
        self.assertEqual(Table(BINARY, Store([]), Store([]), ()).layers, 0)

    def test_layers_are_those_of_left_patterns(self):
        self.assertEqual((OPENED.layers, OPENED.backwards().layers, WHEEL.layers, FLIP.layers), (1, 0, 2, 1))
        self.assertEqual(Table(BINARY, X, X, [WHOLE]).layers, 0)

    def test_lists_that_are_changed_behind(self):
        pair = [[1, 0, []], [1, 0, []], [0]]
        pairs = [pair]
        table = Table(BINARY, X, X, pairs)
        pair[0][2].append(5)
        pair[2][0] = 9
        pairs.append(None)
        self.exactly(table.pairs, (WHOLE,))
        self.exactly(table.run((1, 0, LEAF)), (1, 0, LEAF))

    def test_equality(self):
        for table in (OPENED, FLIP, WHEEL, Table(BINARY, X, X, [WHOLE])):
            for other in (OPENED, FLIP, WHEEL, Table(BINARY, X, X, [WHOLE])):
                self.assertEqual(table == other, table.pairs == other.pairs)
                self.assertEqual(table != other, table.pairs != other.pairs)
            for other in ANYTHING + (table.pairs, X, BINARY):
                self.assertFalse(table == other)
                self.assertTrue(table != other)
        self.assertFalse(Table(BINARY, Store([1]), Store([1]), [((0, 0), (0, 0), ())])
                         == Table(RULES[1], Store([1]), Store([1]), [((0, 0), (0, 0), ())]))
        self.assertFalse(Table(BINARY, X, X, along(1, 0)) == Table(BINARY, X, X, [WHOLE]))

    def test_full_lots_that_come_of_no_openings(self):
        three = Store([0, 0, 0, 1])
        table = Table(BINARY, three, three, tabling.mixed(tabling.nothing(WINDING), random.Random(2)))
        for thing in things_of(table):
            self.exactly(table.run(thing), tabling.turned(table.pairs, thing))
            self.exactly(table.back(table.run(thing)), thing)
        self.refuses(BadLot, ("lefts",), Table, BINARY, three, three, tabling.nothing(WINDING[1:]))


class Refused(Refusals, unittest.TestCase):
    def test_what_is_no_list_of_pairs(self):
        def no(pairs):
            self.refuses(BadTable, ("pairs",), Table, BINARY, X, TWO, pairs)
            self.refuses(BadTable, ("pairs",), Table, BINARY, X, TWO, list(pairs) + [None] * 500)
        left, right = (1, 0, (2, 0, LEAF, FORK)), (2, 0, FORK, LEAF)
        for order in ([0, 0], [1], [0, 1, 2], [0, 2], [1, 2], [-1, 0], [0, True], [False, 1], ["0", "1"], [0, 1.0],
                      None, 0, "01", {0: 1, 1: 0}, range(2), (), [[0], [1]], [0, None], [0, 10 ** 40]):
            no([(left, right, order)])
        for value in ANYTHING + ("ab", (left, right), (left, right, (0, 1), ()), {left: right}, [left], range(3)):
            no([value])
            if value != ():
                no([((1, 0, value), right, (0, 1))])
                no([(left, (2, 0, value, FORK), (0, 1))])
            if value not in ((), []):
                self.refuses(BadTable, ("pairs",), Table, BINARY, X, TWO, value)
        for one, other in ((right, left), (left, left), (right, right), ((1, 0, ()), right), (left, (2, 0, (), FORK)),
                           (left, (2, 1, FORK, LEAF)), ((1, 0, (2, 1, LEAF, FORK)), right), (left[2], right),
                           (left, right[3]), (left + ((),), right), ((1, 0), right), (left, (2, 0, LEAF))):
            for order in ([0, 1], [1, 0], [0]):
                no([(one, other, order)])
        self.refuses(BadTable, ("pairs",), Table, BINARY, X, TWO, (left, right, (0, 1)))

    def test_what_is_no_full_lot(self):
        leaf, fork = ((1, 0, LEAF), (1, 0, LEAF), ()), ((1, 0, FORK), (1, 0, FORK), (0, 1))
        for pairs in ([], [leaf], [fork], [leaf, fork, leaf], [leaf, fork, fork], [WHOLE, leaf], [WHOLE, WHOLE]):
            self.refuses(BadLot, ("lefts",), Table, BINARY, X, X, pairs)
        halves = [((1, 0, (2, 0, LEAF, ())), (1, 0, (2, 0, (), LEAF)), (0,)),
                  ((1, 0, (2, 0, FORK, ())), (1, 0, (2, 0, FORK, ())), (0, 1, 2)), leaf]
        self.refuses(BadLot, ("rights",), Table, BINARY, X, X, halves)
        turned = [(right, left, order) for left, right, order in halves]
        self.refuses(BadLot, ("lefts",), Table, BINARY, X, X, turned)
        self.refuses(BadLot, ("lefts",), Table, BINARY, X, X, halves[1:])
        self.refuses(BadLot, ("rights",), Table, BINARY, X, Store([0, 2]), [leaf, fork])
        self.refuses(BadLot, ("lefts",), Table, BINARY, Store([0, 2]), X, [leaf, fork])
        self.refuses(BadLot, ("rights",), Table, BINARY, Store([1]), Store([2]), [((0, 0), (0, 1), ())])
        self.refuses(BadLot, ("lefts",), Table, BINARY, X, Store([]), [])
        self.refuses(BadLot, ("rights",), Table, BINARY, Store([]), X, [])
        self.refuses(BadLot, ("lefts",), Table, BINARY, Store([10 ** 30]), Store([10 ** 30]), [((0, 0), (0, 0), ())])

    def test_in_order(self):
        deep = along(51, -1)
        many = [((1, 0, LEAF), (1, 0, LEAF), ())] * 401
        for value in ANYTHING + ((1, 0, 1), "1 0 1"):
            self.refuses(BadRule, ("rule",), Table, value, None, None, None)
            self.refuses(BadStore, ("one",), Table, BINARY, value, None, None)
            self.refuses(BadStore, ("other",), Table, BINARY, X, value, None)
        self.refuses(BadTable, ("pairs",), Table, BINARY, X, X, many + [None])
        self.refuses(TooMany, ("pairs", 400), Table, BINARY, X, X, many + deep)
        self.refuses(TooMany, ("layers", 50), Table, BINARY, X, X, deep[1:])
        self.refuses(BadLot, ("lefts",), Table, BINARY, X, X, many[:2])

    def test_layers_just_let_and_just_too_many(self):
        for hole in (0, -1):
            table = Table(BINARY, X, X, along(50, hole))
            self.assertEqual((table.layers, len(table.pairs)), (50, 51))
            self.refuses(TooMany, ("layers", 50), Table, BINARY, X, X, along(51, hole))
            pairs = along(51, hole)
            right = pairs[-1][1]
            # The left patterns have a knot less than the right ones, one layer fewer.
            shallow = [(one[0], (2, 0) + other[1][2][2:], other[2]) for one, other in zip(along(50, hole)[-1:], pairs[-1:])]
            self.assertEqual(layers_of(right[2]), 51)
            self.refuses(BadTable, ("pairs",), Table, BINARY, X, TWO, shallow)
            one = [((2, 0) + pair[0][2][2:], pair[1], pair[2]) for pair in pairs if pair[0][2] != LEAF]
            one.append(((0, 0), (1, 0, LEAF), ()))
            self.refuses(TooMany, ("layers", 50), Table, BINARY, Store([1, 0, 1]), X, one)
            other = [(pair[1], pair[0], pair[2]) for pair in one]
            self.refuses(TooMany, ("layers", 50), Table, BINARY, X, Store([1, 0, 1]), other)

    def test_pairs_just_let_and_just_too_many(self):
        chosen = random.Random(3)
        pairs = tabling.told_otherwise(BINARY.counts, [WHOLE], 399, chosen)
        table = Table(BINARY, X, X, tabling.mixed(pairs, chosen))
        self.assertEqual(len(table.pairs), 400)
        for thing in things_of(table, 10):
            self.exactly(table.run(thing), tabling.turned(table.pairs, thing))
            self.exactly(table.back(table.run(thing)), thing)
        self.assertEqual(table.backwards().backwards(), table)
        self.assertEqual(table.then(nothing_done(BINARY, X)), table)
        self.refuses(TooMany, ("pairs", 400), Table, BINARY, X, X, tabling.told_otherwise(BINARY.counts, pairs, 1, chosen))


class Runs(Refusals, unittest.TestCase):
    def test_run_and_back(self):
        for table in some_tables(4):
            for thing in things_of(table):
                came = tabling.turned(table.pairs, thing)
                self.exactly(table.run(thing), came)
                self.exactly(table.run(listing.listed(thing)), came)
                self.assertTrue(is_thing(table.rule, table.other, came))
                self.exactly(table.back(listing.listed(came)), thing)
            for thing in listing.things_up_to(table.rule.counts, table.other.counts, 5)[:20]:
                self.exactly(table.back(thing), tabling.back(table.pairs, thing))
                self.exactly(table.run(table.back(thing)), thing)

    def test_great_things(self):
        tree = LEAF
        for _ in range(12):
            tree = (2, 0, tree, tree)
        for table in (FLIP, WHEEL, FLIP.then(WHEEL), WHEEL.then(WHEEL)):
            for part in (tree, (2, 0, LEAF, tree), (2, 0, (2, 0, tree, LEAF), tree)):
                came = table.run((1, 0, part))
                self.assertTrue(is_thing(BINARY, X, came))
                self.assertEqual(table.back(came), (1, 0, part))
        deep = []
        for _ in range(50):
            deep = [2, 0, [0, 0], deep or [0, 0]]
        self.assertEqual(FLIP.back(FLIP.run([1, 0, deep])), (1, 0, tabling_tuple(deep)))

    def test_refuse(self):
        for value in ANYTHING + ((1, 0), (1, 0, ()), (1, 0, FORK), (0, 0), (1, 1, LEAF), (1, 0, (0, 1)), LEAF + (LEAF,)):
            for table in (FLIP, WHEEL):
                self.refuses(BadThing, ("thing",), table.run, value)
                self.refuses(BadThing, ("thing",), table.back, value)
            if value != (0, 0):
                self.refuses(BadThing, ("thing",), OPENED.back, value)
        self.refuses(BadThing, ("thing",), OPENED.run, (2, 0, LEAF, LEAF))
        self.refuses(BadThing, ("thing",), OPENED.back, (1, 0, LEAF))

    def test_backwards(self):
        for table in some_tables(5):
            other = table.backwards()
            self.assertIs(type(other), Table)
            self.assertEqual((other.one, other.other, other.rule), (table.other, table.one, table.rule))
            self.assertEqual(len(other.pairs), len(table.pairs))
            self.exactly(other.layers, most_layers([pair[1] for pair in table.pairs]))
            pairs = sorted((right, left, tuple(order.index(hole) for hole in range(len(order))))
                           for left, right, order in table.pairs)
            self.exactly(other.pairs, tuple(pairs))
            self.assertEqual(other.backwards(), table)
            for thing in things_of(table, 8):
                self.exactly(other.back(thing), table.run(thing))
                self.exactly(other.run(table.run(thing)), thing)


def tabling_tuple(value):
    return tuple(tabling_tuple(part) for part in value) if isinstance(value, list) else value


def through(first, second):
    """For each right pattern of the first table and left one of the second that have a common one, the pair.

    The patterns are found by what the tables make of things: as the common one, filled with unlike trees.
    """
    rule, found = first.rule, []
    for one, another in itertools.product(first.pairs, second.pairs):
        both = common(rule, first.other, one[1], another[0])
        if both is not None:
            signs = [("sign", hole) for hole in range(listing.holes_of(both))]
            middle = listing.with_trees(both, list(signs))
            left = tabling.back([one], middle)
            right = tabling.turned([another], middle)
            order = [signs_in(left).index(sign) for sign in signs_in(right)]
            found.append((without(left), without(right), tuple(order)))
    return tuple(sorted(found))


def signs_in(part):
    return [part] if part[:1] == ("sign",) else [sign for below in part[2:] for sign in signs_in(below)]


def without(part):
    return () if part[:1] == ("sign",) else part[:2] + tuple(map(without, part[2:]))


class OneBehindAnother(Refusals, unittest.TestCase):
    def cases(self, seed, many=2, often=6):
        """Rows of so many tables, each leading on from the store to which the one ahead leads."""
        chosen = random.Random(seed)
        for rule in RULES:
            for begin in STORES:
                tables, store = [], begin
                for _ in range(many):
                    pairs = tabling.some_pairs(rule.counts, store.counts, chosen.randrange(often), chosen)
                    tables.append(Table(rule, store, store, pairs))
                    steps = [trees for trees, boxes in enumerate(store.counts) if trees and boxes]
                    if steps and chosen.random() < 0.7:
                        pairs, end = tabling.step_pairs(rule.counts, store.counts, (1, chosen.choice(steps)))
                        tables[-1] = Table(rule, store, Store(end), through(tables[-1], Table(rule, store, Store(end), pairs)))
                        store = Store(end)
                yield tables

    def test_pair_for_pair(self):
        for first, second in self.cases(6):
            table = first.then(second)
            self.assertEqual((table.rule, table.one, table.other), (first.rule, first.one, second.other))
            self.exactly(table.pairs, through(first, second))
            self.assertGreaterEqual(len(table.pairs), max(len(first.pairs), len(second.pairs)))
            for thing in things_of(first, 12):
                self.exactly(table.run(thing), second.run(first.run(thing)))
                self.exactly(table.back(table.run(thing)), thing)

    def test_of_three_whichever_two_come_first(self):
        for one, two, three in self.cases(7, 3, 4):
            self.assertEqual(one.then(two).then(three), one.then(two.then(three)))

    def test_backwards_and_behind_nothing(self):
        for first, second in self.cases(8):
            self.assertEqual(first.then(second).backwards(), second.backwards().then(first.backwards()))
            self.assertEqual(first.then(nothing_done(first.rule, first.other)), first)
            self.assertEqual(nothing_done(first.rule, first.one).then(first), first)
            there = first.then(first.backwards())
            self.exactly(there.pairs, tuple(sorted(tabling.nothing(pair[0] for pair in first.pairs))))

    def test_none_are_joined(self):
        self.assertEqual(len(FLIP.then(FLIP).pairs), 2)
        self.assertEqual(len(WHEEL.then(WHEEL).pairs), 5)
        self.exactly(FLIP.then(FLIP).pairs, (((1, 0, LEAF), (1, 0, LEAF), ()), ((1, 0, FORK), (1, 0, FORK), (0, 1))))

    def test_too_many_pairs(self):
        def told(number, hole):
            """Pairs that do nothing in a box of two trees, with so many patterns, all by what is in one tree."""
            lot = [pair[0][2] for pair in tabling.told_otherwise(BINARY.counts, [WHOLE], number - 1, random.Random(9))]
            return tabling.nothing([(2, 0, part, ()) if hole == 0 else (2, 0, (), part) for part in lot])
        one, other, more = [Table(BINARY, TWO, TWO, told(*row)) for row in ((20, 0), (20, 1), (21, 1))]
        self.assertEqual(len(one.then(other).pairs), 400)
        for first, second in ((one, more), (more, one)):
            self.refuses(TooMany, ("pairs", 400), first.then, second)
        great = [Table(BINARY, TWO, TWO, told(400, hole)) for hole in (0, 1)]
        self.refuses(TooMany, ("pairs", 400), great[0].then, great[1])

    def test_too_many_layers(self):
        bare = Table(BINARY, X, Store([1, 0, 1]), OPENED.pairs)
        deeper = Table(BINARY, Store([1, 0, 1]), Store([1, 0, 1]),
                       [((0, 0), (0, 0), ())] + [((2, 0) + pair[0][2][2:], (2, 0) + pair[1][2][2:], pair[2])
                                                 for pair in along(51, -1) if pair[0][2] != LEAF])
        self.assertEqual((deeper.layers, bare.then(bare.backwards()).layers), (50, 1))
        self.refuses(TooMany, ("layers", 50), bare.then, deeper)
        self.refuses(TooMany, ("layers", 50), deeper.then, bare.backwards())
        fifty = Table(BINARY, X, X, along(50, -1))
        self.assertEqual(fifty.then(fifty), fifty)
        # The wheel takes the last trees one layer deeper, the first ones one layer less.
        self.refuses(TooMany, ("layers", 50), fifty.then, WHEEL)
        first = Table(BINARY, X, X, along(50, 0))
        self.assertEqual(first.then(WHEEL).layers, 50)
        self.refuses(TooMany, ("layers", 50), first.then, WHEEL.backwards())

    def test_refused_in_order(self):
        other_rule = Table(RULES[1], TWO, TWO, [((2, 0, (), ()), (2, 0, (), ()), (0, 1))])
        for value in ANYTHING + (OPENED.pairs, Chain(BINARY, X, [])):
            self.refuses(BadTable, ("other",), OPENED.then, value)
            self.refuses(BadTable, ("other",), OPENED.beside, value)
        self.refuses(Misfit, ("rules",), OPENED.then, other_rule)
        self.refuses(Misfit, ("rules",), OPENED.beside, other_rule)
        self.refuses(Misfit, ("stores",), OPENED.then, OPENED)
        self.refuses(Misfit, ("stores",), OPENED.then, FLIP)
        self.refuses(Misfit, ("stores",), OPENED.then, nothing_done(BINARY, Store([400])))
        self.assertEqual(OPENED.then(OPENED.backwards()).pairs[0], ((1, 0, LEAF), (1, 0, LEAF), ()))
        great = Table(RULES[1], Store([400]), Store([400]), tabling.nothing([(0, index) for index in range(400)]))
        self.refuses(Misfit, ("rules",), OPENED.beside, great)


class BesideOneAnother(Refusals, unittest.TestCase):
    def test_things_of_each(self):
        chosen = random.Random(10)
        tables = list(some_tables(11))
        for one in tables[::2]:
            other = chosen.choice([table for table in tables if table.rule == one.rule])
            both = one.beside(other)
            self.assertIs(type(both), Table)
            self.assertEqual((both.one, both.other), (one.one.plus(other.one), one.other.plus(other.other)))
            self.assertEqual(len(both.pairs), len(one.pairs) + len(other.pairs))
            for thing in things_of(one, 8):
                self.exactly(both.run(thing), one.run(thing))
                self.exactly(both.back(one.run(thing)), thing)
            for thing in things_of(other, 8):
                ahead = shifted(one.rule, one.one, other.one, thing)
                came = shifted(one.rule, one.other, other.other, other.run(thing))
                self.exactly(both.run(ahead), came)
                self.exactly(both.back(came), ahead)

    def test_pairs(self):
        self.exactly(FLIP.beside(OPENED).pairs, (
            ((1, 0, LEAF), (1, 0, LEAF), ()), ((1, 0, FORK), (1, 0, FORK), (1, 0)),
            ((1, 1, LEAF), (0, 0), ()), ((1, 1, FORK), (2, 0, (), ()), (0, 1))))
        self.exactly(OPENED.beside(OPENED).pairs[2:], (
            ((1, 1, LEAF), (0, 1), ()), ((1, 1, FORK), (2, 1, (), ()), (0, 1))))
        none = Table(BINARY, Store([]), Store([]), [])
        for table in (none, OPENED, FLIP, WHEEL):
            self.assertEqual(none.beside(table), table)
            self.assertEqual(table.beside(none), table)

    def test_of_three(self):
        for one, two, three in itertools.permutations((OPENED, FLIP, WHEEL.then(OPENED))):
            self.assertEqual(one.beside(two).beside(three), one.beside(two.beside(three)))

    def test_most_pairs(self):
        some = {many: nothing_done(BINARY, Store([many])) for many in (1, 200, 201, 399, 400)}
        for one, other in ((200, 200), (1, 399), (399, 1)):
            self.assertEqual(len(some[one].beside(some[other]).pairs), 400)
        for one, other in ((200, 201), (1, 400), (400, 1), (400, 400)):
            self.refuses(TooMany, ("pairs", 400), some[one].beside, some[other])
        wide = nothing_done(BINARY, power_of(40)).beside(nothing_done(BINARY, power_of(40)))
        self.assertEqual(wide.one, Store([0] * 40 + [2]))


if __name__ == "__main__":
    unittest.main()
