import itertools
import random
import unittest

import listing
import tabling
from helpers import ANYTHING, Refusals
from sevenasone.errors import BadTable, Misfit
from sevenasone.fewer import fewer_pairs
from sevenasone.made import nothing_done
from sevenasone.overlaps import overlapping_pairs
from sevenasone.papers import Denial, Paper
from sevenasone.rows import told_by
from sevenasone.rules import Rule
from sevenasone.same import Parted, Same, same
from sevenasone.stores import Store
from sevenasone.tables import Table
from sevenasone.things import is_thing
from test_tables import (BINARY, FLIP, FORK, LEAF, OPENED, RULES, STORES, TWO, WHEEL, WHOLE, WINDING, X, layers_of,
                         some_tables, things_of)


def told(table, often, chosen):
    """A table that does the same, opened so often."""
    pairs = tabling.told_otherwise(table.rule.counts, table.pairs, often, chosen)
    return Table(table.rule, table.one, table.other, pairs)


def holes_exchanged(table, chosen):
    """The table with two holes exchanged in one pair; None if no pair has two."""
    at = [place for place, pair in enumerate(table.pairs) if len(pair[2]) > 1]
    if not at:
        return None
    place = chosen.choice(at)
    left, right, order = table.pairs[place]
    row = list(order)
    one, other = chosen.sample(range(len(row)), 2)
    row[one], row[other] = row[other], row[one]
    pairs = table.pairs[:place] + ((left, right, tuple(row)),) + table.pairs[place + 1:]
    return Table(table.rule, table.one, table.other, pairs)


def rights_exchanged(table, chosen):
    """The table with the right patterns of two pairs exchanged; None if no two have as many holes."""
    some = [(one, other) for one, other in itertools.combinations(range(len(table.pairs)), 2)
            if len(table.pairs[one][2]) == len(table.pairs[other][2])]
    if not some:
        return None
    one, other = chosen.choice(some)
    pairs = list(table.pairs)
    pairs[one], pairs[other] = [(pairs[at][0], pairs[to][1], pairs[at][2]) for at, to in ((one, other), (other, one))]
    return Table(table.rule, table.one, table.other, pairs)


def opened_along(counts, box, most, chosen):
    """Pairs that leave the things of a box as they are, so many or just below: the last one is opened each time."""
    pairs = tabling.nothing([box])
    while len(pairs) + sum(counts) - 1 <= most:
        last = pairs.pop()
        below = [tabling.opened_pair(counts, last, hole) for hole in chosen.sample(last[2], len(last[2]))[:6]]
        pairs += [one for one in below if max(map(layers_of, one[-1][0][2:])) <= 50][0]
    return pairs


class TwoTables(Refusals, unittest.TestCase):
    def parted(self, one, other):
        paper = same(one, other)
        self.assertIs(type(paper), Parted)
        self.assertTrue(is_thing(one.rule, one.one, paper.thing))
        self.assertNotEqual(one.run(paper.thing), other.run(paper.thing))
        self.assertNotEqual(tabling.turned(one.pairs, paper.thing), tabling.turned(other.pairs, paper.thing))
        again = same(Table(one.rule, one.one, one.other, one.pairs[::-1]), other)
        self.exactly(again.parts, paper.parts)

    def test_told_otherwise(self):
        chosen = random.Random(1)
        for table in some_tables(2):
            for often in (0, 1, 4):
                one, other = told(table, often, chosen), told(table, 3, chosen)
                self.assertEqual(same(one, other), Same())
                self.assertEqual(same(one, table), Same())
                self.assertEqual(same(table, one), Same())
                self.assertEqual(same(one.backwards(), other.backwards()), Same())
                self.assertEqual(one.pairs == table.pairs, len(one.pairs) == len(table.pairs))

    def test_holes_exchanged(self):
        chosen, seen = random.Random(3), 0
        for table in some_tables(4):
            other = holes_exchanged(told(table, 3, chosen), chosen)
            if other is not None:
                self.parted(told(table, 2, chosen), other)
                self.parted(other, table)
                seen += 1
        self.assertGreater(seen, 60)

    def test_right_patterns_exchanged(self):
        chosen, seen = random.Random(5), 0
        for table in some_tables(6):
            other = rights_exchanged(told(table, 3, chosen), chosen)
            if other is not None:
                self.parted(told(table, 2, chosen), other)
                self.parted(other, table)
                seen += 1
        self.assertGreater(seen, 60)

    def test_any_two(self):
        """By a listing of things: none of them shows a difference, or the thing that is told does."""
        chosen = random.Random(7)
        seen = {Same: 0, Parted: 0}
        for rule, store in itertools.product(RULES, STORES):
            for _ in range(6):
                often = chosen.randrange(2)
                one, other = [Table(rule, store, store, tabling.some_pairs(rule.counts, store.counts, often, chosen))
                              for _ in range(2)]
                paper = same(one, other)
                seen[type(paper)] += 1
                if type(paper) is Parted:
                    self.parted(one, other)
                else:
                    self.assertTrue(all(one.run(thing) == other.run(thing) for thing in things_of(one, 80)))
        self.assertGreater(min(seen.values()), 60)

    def test_knots_and_holes_in_one_place(self):
        """A knot here, a hole there: the knot being the least one, another one, one above the hole."""
        two = Store([0, 0, 1])
        swapped = Table(BINARY, two, two, [((2, 0, (), ()), (2, 0, (), ()), (1, 0))])
        halves = Table(BINARY, two, two, [((2, 0, LEAF, ()), (2, 0, LEAF, ()), (0,)),
                                          ((2, 0, FORK, ()), (2, 0, FORK, ()), (0, 1, 2))])
        wheel = Table(BINARY, two, two, [((2, 0, LEAF, ()), (2, 0, (), LEAF), (0,)),
                                         ((2, 0, FORK, ()), (2, 0, (), FORK), (0, 1, 2))])
        for one, other in itertools.permutations((swapped, halves, wheel, nothing_done(BINARY, two)), 2):
            if {id(one), id(other)} & {id(swapped), id(wheel)}:
                self.parted(one, other)
            else:
                self.assertEqual(same(one, other), Same())
        self.parted(FLIP, WHEEL)
        self.parted(FLIP, nothing_done(BINARY, X))
        self.parted(nothing_done(BINARY, X), WHEEL)
        self.parted(FLIP.then(WHEEL), WHEEL.then(FLIP))
        self.assertEqual(same(WHEEL.then(WHEEL.backwards()), nothing_done(BINARY, X)), Same())

    def test_holes_of_unlike_trees(self):
        for rule in RULES:
            knot = rule.knots[-1]
            many = knot[0]
            leaves = [((1, 0, one), (1, 0, one), ()) for one in listing.opened(rule.counts, (), 0)]
            pairs = [(left, left, tuple(range(listing.holes_of(left)))) for left, _, _ in leaves]
            for order in itertools.islice(itertools.permutations(range(many)), 1, None, 7):
                turned = pairs[:-1] + [(pairs[-1][0], pairs[-1][1], order)]
                self.parted(Table(rule, X, X, pairs), Table(rule, X, X, turned))

    def test_finite_stores_and_none(self):
        some = Store([3])
        one = Table(BINARY, some, some, [((0, 0), (0, 1), ()), ((0, 1), (0, 0), ()), ((0, 2), (0, 2), ())])
        self.exactly(same(one, nothing_done(BINARY, some)).thing, (0, 0))
        self.assertEqual(same(one.then(one), nothing_done(BINARY, some)), Same())
        none = Table(BINARY, Store([]), Store([]), [])
        self.assertEqual(same(none, none), Same())

    def test_windings(self):
        three = Store([0, 0, 0, 1])
        one = Table(BINARY, three, three, tabling.nothing(WINDING))
        self.assertEqual(same(one, nothing_done(BINARY, three)), Same())
        self.parted(one, holes_exchanged(one, random.Random(8)) or Table(
            BINARY, three, three, [(pair[0], pair[1], pair[2]) for pair in tabling.mixed(one.pairs, random.Random(9))]))

    def test_refused_in_order(self):
        other_rule = nothing_done(Rule([1, 1, 1]), X)
        for value in ANYTHING + (OPENED.pairs, X):
            self.refuses(BadTable, ("one",), same, value, value)
            self.refuses(BadTable, ("one",), same, value, OPENED)
            self.refuses(BadTable, ("other",), same, OPENED, value)
        self.refuses(Misfit, ("rules",), same, OPENED, other_rule)
        self.refuses(Misfit, ("rules",), same, FLIP, other_rule)
        for one, other in ((FLIP, OPENED), (OPENED, FLIP), (OPENED, OPENED.backwards()), (FLIP, nothing_done(BINARY, TWO)),
                           (OPENED, nothing_done(BINARY, OPENED.other)), (nothing_done(BINARY, OPENED.other), OPENED)):
            self.refuses(Misfit, ("stores",), same, one, other)
        self.assertEqual(same(other=FLIP, one=FLIP), Same())

    def test_papers(self):
        self.assertEqual((Same().word, Same().parts, bool(Same())), ("same", (), True))
        self.assertNotIsInstance(Same(), Denial)
        self.assertNotEqual(Same(), Paper("same"))
        with self.assertRaises(TypeError):
            Same(1)
        for value in ANYTHING + ([1, [2]],):
            paper = Parted(value)
            self.assertEqual((paper.word, bool(paper)), ("parted", False))
            self.assertEqual(Parted(thing=value), paper)
            self.exactly(paper.parts, (paper.thing,))
        self.assertIsInstance(Parted(1), Denial)


class GreatTables(Refusals, unittest.TestCase):
    """Answers come in a short time: what goes wrong here takes a minute."""

    def test_four_hundred_pairs_told_otherwise(self):
        chosen = random.Random(10)
        for table in (FLIP, WHEEL, nothing_done(BINARY, X), nothing_done(BINARY, TWO), OPENED):
            one, other = [told(table, 400 - len(table.pairs), chosen) for _ in range(2)]
            self.assertEqual(len(one.pairs), 400)
            self.assertEqual(same(one, other), Same())
            self.assertEqual(same(one, table), Same())
            unlike = holes_exchanged(other, chosen)
            paper = same(one, unlike)
            self.assertNotEqual(one.run(paper.thing), unlike.run(paper.thing))

    def test_along_many_that_meet(self):
        """The left patterns of the one meet most of those of the other."""
        chosen = random.Random(11)
        one, other = [Table(BINARY, X, X, opened_along(BINARY.counts, (1, 0, ()), 250, chosen)) for _ in range(2)]
        meeting = overlapping_pairs([pair[0] for pair in one.rows], [pair[0] for pair in other.rows])
        self.assertGreater(len(meeting), 30000)
        self.assertEqual(same(one, other), Same())
        flipped = one.then(FLIP)
        self.assertEqual(same(flipped, other.then(FLIP)), Same())
        paper = same(flipped, other)
        self.assertNotEqual(flipped.run(paper.thing), other.run(paper.thing))
        unlike = holes_exchanged(other, chosen)
        paper = same(one, unlike)
        self.assertNotEqual(one.run(paper.thing), unlike.run(paper.thing))

    def test_by_one_tree_and_by_another_one(self):
        chosen = random.Random(12)
        lots = [[pair[0][2] for pair in opened_along(BINARY.counts, (1, 0, ()), 180, chosen)] for _ in range(2)]
        one = Table(BINARY, TWO, TWO, tabling.nothing([(2, 0, part, ()) for part in lots[0]]))
        other = Table(BINARY, TWO, TWO, tabling.nothing([(2, 0, (), part) for part in lots[1]]))
        self.assertEqual(same(one, other), Same())
        self.assertEqual(same(one, holes_exchanged(other, chosen)).word, "parted")
        second = Table(BINARY, TWO, TWO, [((2, 0, (), LEAF), (2, 0, (), LEAF), (0,)),
                                          ((2, 0, (), FORK), (2, 0, (), FORK), (0, 2, 1))])
        third = Table(BINARY, TWO, TWO, tabling.nothing([(2, 0, part, ()) for part in lots[1]]))
        self.assertEqual(same(one.then(second), third.then(second)), Same())
        self.assertEqual(same(one.then(second), third).word, "parted")


class FewerPairs(Refusals, unittest.TestCase):
    def pairs(self, table):
        return [(told_by(left), told_by(right), order) for left, right, order in fewer_pairs(table.rule, table.rows)]

    def test_they_do_the_same(self):
        chosen = random.Random(13)
        for number in range(600):
            rule = chosen.choice(RULES)
            store = chosen.choice(STORES[:6] + [Store([0, 2, 1]), Store([1, 0, 0, 0, 1])])
            pairs = tabling.some_pairs(rule.counts, store.counts, chosen.randrange(5), chosen)
            one = told(Table(rule, store, store, pairs), chosen.randrange(12), chosen)
            fewer = Table(rule, store, store, self.pairs(one))
            self.assertLessEqual(len(fewer.pairs), len(one.pairs))
            for thing in things_of(one, 6) + [pair[0] for pair in one.pairs if not pair[2]]:
                self.exactly(fewer.run(thing), one.run(thing))
            if number % 5 == 0:
                self.assertEqual(same(fewer, one), Same())
                self.exactly(fewer.then(one.backwards()).pairs, tuple(sorted(tabling.nothing(
                    pair[0] for pair in fewer.then(one.backwards()).pairs))))

    def test_one_odd_pair_among_many(self):
        chosen = random.Random(16)
        for table in (nothing_done(BINARY, X), nothing_done(BINARY, TWO), FLIP, WHEEL) * 3:
            one = holes_exchanged(told(table, 40 + chosen.randrange(30), chosen), chosen)
            fewer = Table(one.rule, one.one, one.other, self.pairs(one))
            self.exactly(same(fewer, one).word, "same")
            self.exactly(same(fewer, table).word, "parted")
            for thing in things_of(one, 10):
                self.exactly(fewer.run(thing), one.run(thing))

    def test_they_are_few(self):
        chosen = random.Random(15)
        for table in (FLIP, WHEEL, OPENED, OPENED.backwards(), nothing_done(BINARY, Store([2, 1, 2])),
                      Table(BINARY, X, X, [WHOLE])):
            for _ in range(10):
                self.assertEqual(len(self.pairs(told(table, 30, chosen))), len(table.pairs))


if __name__ == "__main__":
    unittest.main()
