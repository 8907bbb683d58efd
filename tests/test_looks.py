import itertools
import random
import unittest

import listing
import reading
from helpers import ANYTHING, Refusals
from sevenasone.check_looks import shows_looks
from sevenasone.errors import BadLot, BadPaper, BadRule, BadStore, BadThing, TooMany
from sevenasone.looks import Looked, Stuck, looks, number_by
from sevenasone.lots import finer, full
from sevenasone.papers import Denial, Paper
from sevenasone.patterns import opened_at
from sevenasone.rules import Rule
from sevenasone.stores import Store, power_of

RULES = [Rule(counts) for counts in ([1, 0, 1], [1, 1, 1], [2, 0, 1], [1, 0, 0, 1], [2, 1, 1], [1, 0, 0, 0, 0, 1])]
TWO_KNOTS = [rule for rule in RULES if len(rule.knots) == 2]
STORES = [Store(counts) for counts in ([0, 1], [0, 0, 1], [1, 2], [0, 0, 0, 1], [2, 0, 2], [1, 1, 1], [3], [])]
BINARY, X, TWO, THREE = RULES[0], Store([0, 1]), Store([0, 0, 1]), Store([0, 0, 0, 1])
LEAF, FORK = (0, 0), (2, 0, (), ())
LOT = [(2, 0, LEAF, ()), (2, 0, FORK, LEAF), (2, 0, FORK, FORK)]
WINDING = [(3, 0, FORK, LEAF, ()), (3, 0, (), FORK, LEAF), (3, 0, LEAF, (), FORK), (3, 0, LEAF, LEAF, LEAF),
           (3, 0, FORK, FORK, FORK)]
WAYS = ((0, (0, (2, (1, 2)))),)


def opened_lots(seed, many, often=9):
    chosen = random.Random(seed)
    for number in range(many):
        rule, store = RULES[number % len(RULES)], chosen.choice(STORES)
        yield rule, store, listing.opened_lot(rule.counts, store.counts,
                                              chosen.randrange(often) if store.is_endless else 0, chosen)


def wound_lots(seed, many):
    chosen = random.Random(seed)
    for number in range(many):
        rule, store = TWO_KNOTS[number % 3], chosen.choice([THREE, TWO, X, Store([1, 0, 0, 1, 1])])
        yield rule, store, reading.wound_lot(rule.counts, store.counts, 2 + chosen.randrange(3), chosen.randrange(3),
                                             chosen.randrange(8), chosen)


def some_things(rule, store, most=20):
    found = listing.things_up_to(rule.counts, store.counts, 7)
    return found[::1 + len(found) // most]


def leaning(depth, hole):
    """A lot of one tree: opened so often, each time in the last pattern's hole with this number."""
    lot, last = [], (1, 0, ())
    for _ in range(depth):
        leafed, last = opened_at(BINARY, X, last, hole % listing.holes_of(last))
        lot.append(leafed)
    return lot + [last]


class WithoutIdleLooks(Refusals, unittest.TestCase):
    def read(self, rule, store, lot):
        """The lot is read without an idle look: box by box, look by look, and so are things."""
        paper = looks(rule, store, lot)
        self.assertIs(type(paper), Looked)
        self.assertIs(shows_looks(rule, store, lot, paper), True)
        self.assertTrue(reading.is_reading(rule.counts, store.counts, lot, paper.ways, False))
        self.exactly(looks(rule, store, listing.listed(tuple(lot))).ways, paper.ways)
        for thing in some_things(rule, store):
            number, many = number_by(rule, store, lot, paper.ways, thing)
            self.assertTrue(listing.fits(lot[number], thing))
            self.assertEqual(many, listing.knots_of(lot[number]) - 1)
        return paper

    def test_lots_that_come_of_openings(self):
        for rule, store, lot in opened_lots(1, 240):
            paper = self.read(rule, store, lot)
            backwards = lot[::-1]
            again = self.read(rule, store, backwards)
            for thing in some_things(rule, store, 5):
                numbers = [number_by(rule, store, one, ways, thing)[0] for one, ways in
                           ((lot, paper.ways), (backwards, again.ways))]
                self.assertEqual(sum(numbers), len(lot) - 1)

    def test_finer_lots(self):
        chosen = random.Random(2)
        for rule in RULES:
            for store in STORES:
                lots = [listing.opened_lot(rule.counts, store.counts, often if store.is_endless else 0, chosen)
                        for often in (2, 3)]
                self.read(rule, store, finer(rule, store, *lots))
        lot = finer(BINARY, THREE, WINDING, [(3, 0, LEAF, (), ()), (3, 0, FORK, (), ())])
        self.assertTrue(reading.comes_of_openings(BINARY.counts, lot, (3, 0, (), (), ())))
        self.read(BINARY, THREE, lot)

    def test_stores_added(self):
        chosen = random.Random(3)
        for rule in RULES:
            for one, other in ((X, TWO), (Store([1, 2]), Store([2, 0, 2])), (Store([3]), X), (Store([0, 2]), Store([1, 1, 1]))):
                lots = [listing.opened_lot(rule.counts, store.counts, 3 if store.is_endless else 0, chosen)
                        for store in (one, other)]
                ahead = [one.counts[pattern[0]] if pattern[0] < len(one.counts) else 0 for pattern in lots[1]]
                behind = [(pattern[0], pattern[1] + more) + pattern[2:] for pattern, more in zip(lots[1], ahead)]
                ways = [looks(rule, store, lot).ways for store, lot in zip((one, other), lots)]
                paper = self.read(rule, one.plus(other), lots[0] + behind)
                self.assertEqual(len(paper.ways), len(ways[0]) + len(ways[1]))

    def test_four_hundred_boxes(self):
        chosen = random.Random(4)
        for counts in ([400], [0, 400], [100, 100, 150, 0, 50], [0] * 40 + [400]):
            store = Store(counts)
            lot = listing.boxes_alone(counts)
            chosen.shuffle(lot)
            paper = looks(BINARY, store, lot)
            self.exactly(paper.ways, tuple(lot.index(box) for box in listing.boxes_alone(counts)))
            self.assertIs(shows_looks(BINARY, store, lot, paper), True)
        store = Store([0, 0, 100])
        lot = [pattern for index in range(100) for pattern in
               [(2, index, LEAF, LEAF), (2, index, LEAF, FORK), (2, index, FORK, LEAF), (2, index, FORK, FORK)]]
        chosen.shuffle(lot)
        self.assertEqual(len(self.read(BINARY, store, lot).ways), 100)

    def test_twenty_four_knots_and_one_more(self):
        for hole in (0, -1, 7):
            paper = self.read(BINARY, X, leaning(24, hole))
            thing = listing.with_trees(leaning(24, hole)[-1], [LEAF] * 25)
            self.assertEqual(number_by(BINARY, X, leaning(24, hole), paper.ways, thing), (24, 24))
            for work, more in ((looks, ()), (number_by, (paper.ways, thing)), (shows_looks, (paper,))):
                self.refuses(TooMany, ("knots", 24), work, BINARY, X, leaning(25, hole), *more)
        wide, lot = (40, 0) + ((),) * 40, []
        for _ in range(24):
            leafed, wide = opened_at(BINARY, power_of(40), wide, 0)
            lot.append(wide)
            wide = leafed
        self.read(BINARY, power_of(40), lot + [wide])

    def test_four_hundred_patterns(self):
        """In a short time: with many knots, many sorts of knots, many trees."""
        chosen = random.Random(5)
        for rule, store in ((BINARY, X), (Rule([3, 3, 3, 3, 3, 3]), TWO), (Rule([1, 0, 0, 0, 0, 1]), power_of(40))):
            lot = listing.boxes_alone(store.counts)
            while len(lot) + len(rule.knots) - 1 <= 400:
                pattern = lot.pop(chosen.choice([place for place, pattern in enumerate(lot) if listing.holes_of(pattern)
                                                 and listing.knots_of(pattern) <= 24]))
                lot += listing.opened(rule.counts, pattern, chosen.randrange(listing.holes_of(pattern)))
            paper = looks(rule, store, lot)
            self.assertTrue(reading.is_reading(rule.counts, store.counts, lot, paper.ways, False))
            self.assertIs(shows_looks(rule, store, lot, paper), True)

    def test_no_boxes_and_boxes_alone(self):
        for rule in RULES:
            self.exactly(looks(rule, Store([]), []).ways, ())
            self.exactly(looks(rule, Store([3]), [(0, 2), (0, 0), (0, 1)]).ways, (1, 2, 0))
            self.exactly(looks(rule, X, [(1, 0, ())]).ways, (0,))


class StuckOnes(Refusals, unittest.TestCase):
    def test_just_those_that_come_of_no_openings(self):
        seen = {Looked: 0, Stuck: 0}
        for rule, store, lot in list(wound_lots(6, 300)) + list(opened_lots(7, 60)):
            self.assertTrue(full(rule, store, lot))
            come = all(reading.comes_of_openings(rule.counts, lot, box) for box in listing.boxes_alone(store.counts))
            paper = looks(rule, store, lot)
            seen[type(paper)] += 1
            self.assertIs(type(paper), Looked if come else Stuck)
            self.assertIs(shows_looks(rule, store, lot, paper), True)
            if come:
                self.assertTrue(reading.is_reading(rule.counts, store.counts, lot, paper.ways, False))
            else:
                self.assertIn(paper.pattern, reading.stuck(rule.counts, store.counts, lot))
            again = looks(rule, store, listing.listed(tuple(lot[::-1])))
            self.assertIs(type(again), type(paper))
        self.assertGreater(min(seen.values()), 60)

    def test_winding(self):
        for order in itertools.islice(itertools.permutations(WINDING), 0, 120, 11):
            self.exactly(looks(BINARY, THREE, order).parts, ((3, 0, (), (), ()),))
        five = Store([1, 0, 0, 0, 0, 1])
        lot = [(0, 0), (5, 0, FORK, (), (), (), ())] + [(5, 0, LEAF) + pattern[2:] + ((),) for pattern in WINDING]
        self.exactly(looks(BINARY, five, lot).parts, ((5, 0, LEAF, (), (), (), ()),))

    def test_finer_than_winding(self):
        """A hole that was not wanted by all is so when a pattern has been opened there."""
        lot = WINDING[:1] + WINDING[2:] + list(opened_at(BINARY, THREE, WINDING[1], 0))
        self.assertIs(type(looks(BINARY, THREE, lot)), Looked)
        lot = WINDING[:1] + WINDING[2:] + list(opened_at(BINARY, THREE, WINDING[1], 1))
        self.exactly(looks(BINARY, THREE, lot).parts, ((3, 0, (), (), ()),))


class NumberBy(Refusals, unittest.TestCase):
    def test_idle_looks_let(self):
        chosen = random.Random(8)
        for rule, store, lot in list(opened_lots(9, 120, 5)) + list(wound_lots(10, 60)):
            ways = reading.some_reading(rule.counts, store.counts, lot, chosen, 3)
            self.assertTrue(reading.is_reading(rule.counts, store.counts, lot, ways, True))
            for thing in some_things(rule, store, 12):
                expected = reading.led(rule.counts, store.counts, ways, thing)
                self.exactly(number_by(rule, store, lot, ways, thing), expected)
                self.exactly(number_by(rule, store, lot, listing.listed(ways), listing.listed(thing)), expected)
                self.assertTrue(listing.fits(lot[expected[0]], thing))
                self.assertGreaterEqual(expected[1], listing.knots_of(lot[expected[0]]) - 1)

    def test_no_look_at_a_hole_of_one_possible(self):
        lot, thing = [(2, 0, (), ())], (2, 0, LEAF, (2, 0, LEAF, LEAF))
        self.exactly(number_by(BINARY, TWO, lot, [0], thing), (0, 0))
        self.exactly(number_by(BINARY, TWO, lot, [(1, (0, (2, (0, 0))))], thing), (0, 2))
        self.exactly(number_by(BINARY, TWO, lot, [(1, ((0, (0, 0)), 0))], thing), (0, 1))

    def test_deep_ways(self):
        way, hole = 0, 0
        for _ in range(28):
            way = [hole, [0, way]]
        deep = LEAF
        for _ in range(40):
            deep = (2, 0, deep, LEAF)
        self.exactly(number_by(BINARY, X, [(1, 0, ())], [way], (1, 0, deep)), (0, 28))
        self.exactly(number_by(BINARY, X, [(1, 0, ())], [way], (1, 0, (2, 0, LEAF, deep))), (0, 2))

    def test_great_things(self):
        tree = LEAF
        for _ in range(12):
            tree = (2, 0, tree, tree)
        self.exactly(number_by(BINARY, TWO, LOT, WAYS, (2, 0, tree, tree)), (2, 2))
        self.exactly(number_by(BINARY, TWO, LOT, WAYS, (2, 0, LEAF, tree)), (0, 1))

    def test_what_is_no_reading(self):
        thing = (2, 0, LEAF, LEAF)
        right = (0, (0, (2, (1, 2))))
        self.exactly(number_by(BINARY, TWO, LOT, [right], thing), (0, 1))
        bent = [
            0, 1, 2, 3, -1, (0, (0, 1)), (0, (1, 2)), (0, (0, (2, (2, 1)))), (0, (0, (1, (1, 2)))),
            (0, ((0, (0, 0)), (0, (1, 2)))), (0, (0, (2, (1,)))), (0, (0, (2, (1, 2, 2)))), (0, (0, (2, (1, 2)), 0)),
            (2, (0, 0)), (-1, (0, (2, (1, 2)))), (False, (0, (2, (1, 2)))), (0, (False, (2, (1, 2)))),
            (0, (0, (2, (True, 2)))), (0, (0, (3, (1, 2)))), (0, (0, (2.0, (1, 2)))), (0, (0.0, (2, (1, 2)))),
            (0, (0, (2, (1, 2))), 0), (0,), (), [], ((0, (0, (2, (1, 2)))),), (0, 0), (0, "ab"), "ab", (0, {0: 1, 1: 2}),
            (0, (0, (2, (1, 10 ** 5000)))), (0, (0, (10 ** 30, (1, 2)))), (0, (3, (2, (1, 2)))), (0, (0, (2, (1, None))))]
        for way in bent:
            self.refuses(BadPaper, ("ways",), number_by, BINARY, TWO, LOT, [way], thing)
            self.refuses(BadPaper, ("ways",), number_by, BINARY, TWO, LOT, [way], None)
        for ways in ([], [right, right], right, [[right]], {0: right}, Looked([right]), None, 0, "0", [None]):
            self.refuses(BadPaper, ("ways",), number_by, BINARY, TWO, LOT, ways, thing)
        for value in ANYTHING:
            self.refuses(BadPaper, ("ways",), number_by, BINARY, TWO, LOT, value, thing)
            self.refuses(BadPaper, ("ways",), number_by, BINARY, TWO, LOT, [value], thing)
            self.refuses(BadPaper, ("ways",), number_by, BINARY, TWO, LOT, [(0, value)], thing)
            self.refuses(BadPaper, ("ways",), number_by, BINARY, TWO, LOT, [(value, (0, (2, (1, value))))], thing)

    def test_readings_bent_anywhere(self):
        chosen = random.Random(11)
        for rule, store, lot in opened_lots(12, 60, 4):
            ways = reading.some_reading(rule.counts, store.counts, lot, chosen, 1)
            things = some_things(rule, store, 1)
            for bent in bent_rows(ways):
                if not reading.is_reading(rule.counts, store.counts, lot, bent, True) and things:
                    self.refuses(BadPaper, ("ways",), number_by, rule, store, lot, bent, things[0])

    def test_refused_in_order(self):
        thing = (2, 0, LEAF, LEAF)
        for value in ANYTHING + ((2, 0, (), ()), (2, 0, LEAF), (2, 1, LEAF, LEAF), (3, 0, LEAF, LEAF, LEAF)):
            self.refuses(BadThing, ("thing",), number_by, BINARY, TWO, LOT, WAYS, value)
        self.exactly(number_by(thing=thing, ways=WAYS, lot=LOT, store=TWO, rule=BINARY), (0, 1))


def bent_rows(value):
    """Values that differ from rows in rows of numbers in one place."""
    if isinstance(value, int):
        yield from (value + 1, value - 1, -1, (value,), (0, (value, value)))
        return
    yield value + (0,)
    if value:
        yield value[:-1]
    for place, part in enumerate(value):
        for bent in bent_rows(part):
            yield value[:place] + (bent,) + value[place + 1:]


class Refused(Refusals, unittest.TestCase):
    def test_in_order(self):
        pattern, deep = (1, 0, ()), leaning(25, 0)
        for value in ANYTHING + ((1, 0, 1), "1 0 1"):
            for work, more in ((looks, ()), (number_by, ([0], None)), (number_by, (None, (1, 0, LEAF))),
                               (shows_looks, (Looked((0,)),)), (shows_looks, (None,))):
                self.refuses(BadRule, ("rule",), work, value, None, None, *more)
                self.refuses(BadStore, ("store",), work, BINARY, value, None, *more)
                if value not in ((), []):
                    self.refuses(BadLot, ("lot",), work, BINARY, X, value, *more)
                self.refuses(BadLot, ("lot",), work, BINARY, X, [pattern, value], *more)
                self.refuses(BadLot, ("lot",), work, BINARY, X, deep * 20 + [value], *more)
        for work, more in ((looks, ()), (number_by, (None, None)), (shows_looks, (None,))):
            self.refuses(TooMany, ("patterns", 400), work, BINARY, X, deep * 20, *more)
            self.refuses(TooMany, ("patterns", 400), work, BINARY, X, [pattern] * 401, *more)
            self.refuses(TooMany, ("knots", 24), work, BINARY, X, deep, *more)
            self.refuses(TooMany, ("knots", 24), work, BINARY, X, deep[1:], *more)
            for lot in ([], [pattern] * 2, [(1, 0, LEAF)], [(1, 0, FORK)], [pattern, (1, 0, LEAF)], [pattern] * 400):
                self.refuses(BadLot, ("lot",), work, BINARY, X, lot, *more)
            self.refuses(BadLot, ("lot",), work, BINARY, Store([401]), [(0, index) for index in range(400)], *more)
        self.exactly(looks(lot=LOT, store=TWO, rule=BINARY).ways, WAYS)

    def test_papers(self):
        for made, word, name, base in ((Looked, "looked", "ways", Paper), (Stuck, "stuck", "pattern", Denial)):
            self.assertEqual(issubclass(made, Denial), base is Denial)
            for value in ANYTHING + ([1, [2]], WAYS):
                paper = made(value)
                self.assertEqual((paper.word, bool(paper)), (word, base is Paper))
                self.assertEqual(made(**{name: value}), paper)
                self.exactly(paper.parts, (getattr(paper, name),))
        given = [[0, [1, 2]]]
        paper = Looked(given)
        given[0][1].append(5)
        self.exactly(paper.ways, ((0, (1, 2)),))
        self.assertNotEqual(Looked(()), Stuck(()))
        self.assertNotEqual(Looked(()), Paper("looked", ()))


if __name__ == "__main__":
    unittest.main()
