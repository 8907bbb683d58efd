import random
import unittest

import listing
import reading
from helpers import ANYTHING, Refusals
from sevenasone.check_looks import shows_looks
from sevenasone.errors import BadLot, BadRule, BadStore, TooMany
from sevenasone.looks import Looked, Stuck, looks
from sevenasone.papers import Denial, Paper
from sevenasone.stores import Store
from test_looks import (BINARY, FORK, LEAF, LOT, THREE, TWO, WAYS, WINDING, X, bent_rows, leaning, opened_lots,
                        wound_lots)


class SubLooked(Looked):
    pass


class SubStuck(Stuck):
    pass


class ShownReadings(Refusals, unittest.TestCase):
    def test_with_idle_looks_and_without(self):
        """Just the readings without an idle look are shown: by any order of looks."""
        chosen = random.Random(1)
        seen = {True: 0, False: 0}
        for rule, store, lot in opened_lots(2, 200, 6):
            for more in (0, 0, 1, 2):
                ways = reading.some_reading(rule.counts, store.counts, lot, chosen, more)
                right = reading.is_reading(rule.counts, store.counts, lot, ways, False)
                seen[right] += 1
                self.assertIs(shows_looks(rule, store, lot, Looked(ways)), right)
                self.assertIs(shows_looks(rule, store, lot, Looked(listing.listed(ways))), right)
        self.assertGreater(min(seen.values()), 100)

    def test_bent_anywhere(self):
        for rule, store, lot in list(opened_lots(3, 60, 5)) + list(wound_lots(4, 30)):
            paper = looks(rule, store, lot)
            if type(paper) is Stuck:
                continue
            for bent in bent_rows(paper.ways):
                right = reading.is_reading(rule.counts, store.counts, lot, bent, False)
                self.assertIs(shows_looks(rule, store, lot, Looked(bent)), right, bent)

    def test_bent_ones_by_hand(self):
        right = (0, (0, (2, (1, 2))))
        self.assertIs(shows_looks(BINARY, TWO, LOT, Looked([right])), True)
        for way in ((1, ((0, (0, 1)), (0, (0, 2)))), (0, ((0, (0, 0)), (2, (1, 2)))), (0, (0, (2, (1, (0, (2, 2)))))),
                    (0, (0, (2, (1,)))), (0, (0, 1)), 0, 1, None, "0", True, (0, (0, (2, (True, 2)))),
                    (False, (0, (2, (1, 2)))), (0, (0, (2, (1, 2.0)))), (0, (0, (2, (1, 2, 2)))), (0, (0, (2, (2, 1)))),
                    (0, (0, (0, (1, 2)))), (0, (0, (-1, (1, 2)))), (0, (0, (3, (1, 2)))), (0, (), 0), ()):
            self.assertIs(shows_looks(BINARY, TWO, LOT, Looked([way])), False, way)
        for ways in ([], [right, right], right, None, 0, "0", {0: right}, [None]):
            self.assertIs(shows_looks(BINARY, TWO, LOT, Looked(ways)), False)
        self.assertIs(shows_looks(BINARY, TWO, [(2, 0, (), ())], Looked([0])), True)
        self.assertIs(shows_looks(BINARY, TWO, [(2, 0, (), ())], Looked([(0, (0, 0))])), False)
        self.assertIs(shows_looks(BINARY, Store([]), [], Looked([])), True)
        self.assertIs(shows_looks(BINARY, Store([2]), [(0, 1), (0, 0)], Looked([1, 0])), True)
        self.assertIs(shows_looks(BINARY, Store([2]), [(0, 1), (0, 0)], Looked([0, 1])), False)

    def test_any_order_of_wanted_holes(self):
        lot = [(2, 0, one, other) for one in (LEAF, FORK) for other in (LEAF, FORK)]
        for ways in ([(0, ((0, (0, 1)), (2, (2, 3))))], [(1, ((0, (0, 2)), (0, (1, 3))))]):
            self.assertIs(shows_looks(BINARY, TWO, lot, Looked(ways)), True)
        for ways in ([(0, ((0, (0, 1)), (0, (2, 3))))], [(1, ((0, (0, 1)), (0, (2, 3))))]):
            self.assertIs(shows_looks(BINARY, TWO, lot, Looked(ways)), False)

    def test_winding_is_never_read_without_an_idle_look(self):
        chosen = random.Random(5)
        for _ in range(50):
            ways = reading.some_reading(BINARY.counts, THREE.counts, WINDING, chosen, 2)
            self.assertIs(shows_looks(BINARY, THREE, WINDING, Looked(ways)), False)


class ShownStuckOnes(Refusals, unittest.TestCase):
    def test_all_patterns(self):
        """Of all patterns with few knots just those are shown that the document tells."""
        seen = 0
        for rule, store, lot in list(wound_lots(6, 45)) + list(opened_lots(7, 12)):
            right = reading.stuck(rule.counts, store.counts, lot)
            near = set(reading.come_to_without_idle(rule.counts, store.counts, lot))
            for pattern in sorted(right | near | set(lot)) + listing.patterns_of(rule.counts, store.counts, 2):
                self.assertIs(shows_looks(rule, store, lot, Stuck(pattern)), pattern in right)
                self.assertIs(shows_looks(rule, store, lot, Stuck(listing.listed(pattern))), pattern in right)
            seen += len(right)
        self.assertGreater(seen, 25)

    def test_not_come_to_without_an_idle_look(self):
        """Two are possible at each, and no hole is wanted by all: but only the first one is come to."""
        for pattern, right in (((), True), (LEAF, False), (FORK, False)):
            for place in range(3):
                parts = [()] * 3
                parts[place] = pattern
                self.assertIs(shows_looks(BINARY, THREE, WINDING, Stuck((3, 0, *parts))), right)
        five = Store([0, 0, 0, 0, 1])
        lot = [(4, 0, FORK, (), (), ())] + [(4, 0, LEAF) + pattern[2:] for pattern in WINDING]
        self.assertIs(shows_looks(BINARY, five, lot, Stuck((4, 0, LEAF, (), (), ()))), True)
        for pattern in ((4, 0, (), (), (), ()), (4, 0, FORK, (), (), ()), (4, 0, LEAF, LEAF, (), ()),
                        (4, 0, (2, 0, LEAF, ()), (), (), ()), (4, 0, LEAF, LEAF, LEAF, LEAF)):
            self.assertIs(shows_looks(BINARY, five, lot, Stuck(pattern)), False)

    def test_any_of_several(self):
        store = Store([0, 0, 0, 2])
        lot = WINDING + [(3, 1) + pattern[2:] for pattern in WINDING]
        for index, right in ((0, True), (1, True), (2, False)):
            self.assertIs(shows_looks(BINARY, store, lot, Stuck((3, index, (), (), ()))), right)

    def test_what_is_no_pattern(self):
        for value in ANYTHING + ((3, 0, (), ()), (3, 1, (), (), ()), (3, True, (), (), ()), (2, 0, (), ()),
                                 (3, 0, (), (), (), ()), "3.0 - - -", WINDING, [WINDING[0]]):
            self.assertIs(shows_looks(BINARY, THREE, WINDING, Stuck(value)), False)
        for pattern in WINDING:
            self.assertIs(shows_looks(BINARY, THREE, WINDING, Stuck(pattern)), False)
        self.assertIs(shows_looks(BINARY, TWO, LOT, Stuck((2, 0, (), ()))), False)

    def test_great_patterns(self):
        tree = LEAF
        for _ in range(12):
            tree = (2, 0, tree, tree)
        self.assertIs(shows_looks(BINARY, THREE, WINDING, Stuck((3, 0, tree, (), ()))), False)
        deep = ()
        for _ in range(56):
            deep = [2, 0, [0, 0], deep]
        self.assertIs(shows_looks(BINARY, TWO, LOT, Stuck([2, 0, deep, deep])), False)
        self.assertIs(shows_looks(BINARY, X, leaning(24, -1), Stuck([1, 0, deep])), False)


class Shown(Refusals, unittest.TestCase):
    def test_any_value(self):
        for value in ANYTHING + (Looked, Stuck, Paper("looked", WAYS), Denial("stuck", (3, 0, (), (), ())), WAYS,
                                 SubLooked(WAYS), SubStuck((3, 0, (), (), ())), Paper("stuck", (3, 0, (), (), ())),
                                 (3, 0, (), (), ())):
            self.assertIs(shows_looks(BINARY, TWO, LOT, value), False)
            self.assertIs(shows_looks(BINARY, THREE, WINDING, value), False)
            self.assertIs(shows_looks(BINARY, TWO, LOT, Looked(value)), value == WAYS)
            self.assertIs(shows_looks(BINARY, THREE, WINDING, Stuck(value)), value == (3, 0, (), (), ()))
            self.assertIs(shows_looks(BINARY, TWO, LOT, Stuck(value)), False)
            self.assertIs(shows_looks(BINARY, THREE, WINDING, Looked(value)), False)
        self.assertIs(shows_looks(value=Looked(WAYS), lot=LOT, store=TWO, rule=BINARY), True)

    def test_refused_in_order(self):
        for last in (Looked(WAYS), Stuck((3, 0, (), (), ())), None):
            self.refuses(BadRule, ("rule",), shows_looks, None, None, None, last)
            self.refuses(BadStore, ("store",), shows_looks, BINARY, None, None, last)
            self.refuses(BadLot, ("lot",), shows_looks, BINARY, TWO, None, last)
            self.refuses(BadLot, ("lot",), shows_looks, BINARY, TWO, LOT * 300 + [None], last)
            self.refuses(TooMany, ("patterns", 400), shows_looks, BINARY, X, leaning(25, 0) * 20, last)
            self.refuses(TooMany, ("knots", 24), shows_looks, BINARY, X, leaning(25, 0)[1:], last)
            self.refuses(BadLot, ("lot",), shows_looks, BINARY, TWO, LOT[1:], last)
            self.refuses(BadLot, ("lot",), shows_looks, BINARY, THREE, WINDING + WINDING[:1], last)


if __name__ == "__main__":
    unittest.main()
