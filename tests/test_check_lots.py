import unittest

import listing
from helpers import ANYTHING, Refusals
from sevenasone.alike import Divided
from sevenasone.check_lots import shows_full
from sevenasone.errors import BadLot, BadRule, BadStore, TooMany
from sevenasone.lots import Full, Missed, Twofold, full
from sevenasone.papers import Denial, Paper
from sevenasone.stores import Store
from test_lots import BINARY, FORK, HALF, HALVES, LEAF, THREE, TWO, WINDING, random_lots, size_of


class SubFull(Full):
    pass


def bent(thing):
    """Values that look like the thing, and are none of any store with these boxes."""
    yield thing[:1] + (7,) + thing[2:]
    yield thing[:1] + (-1,) + thing[2:]
    yield (True, True) + thing[2:]
    yield thing + ((0, 0),)
    yield thing[:-1] + ((),)
    yield thing[:-1] + (None,)
    yield thing[2:]
    yield (thing,)


class Shown(Refusals, unittest.TestCase):
    def test_all_papers_of_all_things(self):
        seen = {"full": 0, "twofold": 0, "missed": 0}
        for rule, store, lot in random_lots(160):
            paper = full(rule, store, lot)
            self.assertIs(shows_full(rule, store, lot, paper), True)
            self.assertIs(shows_full(rule, store, lot, Full()), paper == Full())
            things = listing.things_up_to(rule.counts, store.counts, 5)
            for thing in things[::1 + len(things) // 15]:
                numbers = [number for number, pattern in enumerate(lot) if listing.fits(pattern, thing)]
                for given in (thing, listing.listed(thing)):
                    self.assertIs(shows_full(rule, store, lot, Missed(given)), not numbers)
                    for one in range(-1, len(lot) + 1):
                        for other in range(-1, len(lot) + 1):
                            right = one < other and one in numbers and other in numbers
                            self.assertIs(shows_full(rule, store, lot, Twofold(given, one, other)), right)
                            seen["twofold"] += right
                seen["missed"] += not numbers
            seen["full"] += paper == Full()
        self.assertGreater(min(seen.values()), 30)

    def test_bent_things(self):
        for rule, store, lot in random_lots(200):
            paper = full(rule, store, lot)
            if paper:
                continue
            for value in bent(paper.thing):
                self.assertIs(shows_full(rule, store, lot, Missed(value)), False, value)
                self.assertIs(shows_full(rule, store, lot, Twofold(value, 0, 1)), False, value)
            self.assertLess(size_of(paper.thing), 99)

    def test_any_such_thing_and_any_two_such_numbers(self):
        lot = [HALF, HALVES[0], HALF, (2, 0, LEAF, LEAF), (2, 0, (), LEAF)]
        great = (2, 0, (2, 0, LEAF, (2, 0, LEAF, LEAF)), LEAF)
        for one, other, right in ((0, 2, True), (0, 4, True), (2, 4, True), (4, 2, False), (0, 0, False), (0, 1, False),
                                  (0, 3, False), (-1, 2, False), (0, 5, False), (False, 2, False), (0, True, False),
                                  (0, 2.0, False), ("0", 2, False), (None, None, False), ((0,), 2, False),
                                  (0, 10 ** 5000, False)):
            self.assertIs(shows_full(BINARY, TWO, lot, Twofold(great, one, other)), right)
        for one, other in ((1, 3), (1, 4), (3, 4)):
            self.assertIs(shows_full(BINARY, TWO, lot, Twofold([2, 0, [0, 0], [0, 0]], one, other)), True)
        self.assertIs(shows_full(BINARY, TWO, lot, Twofold((2, 0, LEAF, FORK), 1, 3)), False)
        self.assertIs(shows_full(BINARY, TWO, lot[:2] * 2, Twofold((2, 0, LEAF, LEAF), True, 3)), False)

    def test_missed_ones_where_another_one_fits_two(self):
        lot = [HALF, HALF]
        self.assertIs(shows_full(BINARY, TWO, lot, Missed((2, 0, LEAF, (2, 0, LEAF, LEAF)))), True)
        self.assertIs(shows_full(BINARY, TWO, lot, Missed((2, 0, (2, 0, LEAF, LEAF), LEAF))), False)
        self.assertIs(shows_full(BINARY, TWO, lot, Full()), False)
        self.assertIs(shows_full(BINARY, TWO, [], Missed((2, 0, LEAF, LEAF))), True)
        self.assertIs(shows_full(BINARY, Store([]), [], Full()), True)
        self.assertIs(shows_full(BINARY, Store([]), [], Missed((0, 0))), False)

    def test_full_ones(self):
        self.assertIs(shows_full(BINARY, THREE, WINDING, Full()), True)
        self.assertIs(shows_full(BINARY, THREE, WINDING[1:], Full()), False)
        self.assertIs(shows_full(BINARY, THREE, WINDING + WINDING[:1], Full()), False)
        for lot in ([(2, 0, LEAF, ()), (2, 0, (), LEAF)], HALVES[:1] * 2, [], HALVES + [(2, 0, LEAF, LEAF)]):
            self.assertIs(shows_full(BINARY, TWO, lot, Full()), False)

    def test_any_value(self):
        deep = (0, 0)
        for _ in range(56):
            deep = [2, 0, deep, [0, 0]]
        for value in ANYTHING + (Full, "full", Paper("full"), Denial("full"), SubFull(), Divided(()), deep,
                                 Denial("missed", (2, 0, LEAF, LEAF)), Paper("missed", (2, 0, LEAF, LEAF)),
                                 Denial("twofold", (2, 0, LEAF, LEAF), 0, 1)):
            self.assertIs(shows_full(BINARY, TWO, HALVES, value), False)
            self.assertIs(shows_full(BINARY, TWO, HALVES[1:], value), False)
            self.assertIs(shows_full(BINARY, TWO, HALVES[1:], Missed(value)), False)
            self.assertIs(shows_full(BINARY, TWO, HALVES * 2, Twofold(value, 0, 2)), False)
            self.assertIs(shows_full(BINARY, TWO, HALVES * 2, Twofold((2, 0, LEAF, LEAF), value, 2)), value == 0
                          and type(value) is int)
            self.assertIs(shows_full(BINARY, TWO, HALVES * 2, Twofold((2, 0, LEAF, LEAF), 0, value)), False)
        self.assertIs(shows_full(BINARY, TWO, HALVES[1:], Missed([2, 0, LEAF, deep])), True)
        self.assertIs(shows_full(value=Full(), lot=HALVES, store=TWO, rule=BINARY), True)

    def test_refused_in_order(self):
        for last in (Full(), Missed((2, 0, LEAF, LEAF)), None):
            self.refuses(BadRule, ("rule",), shows_full, None, None, None, last)
            self.refuses(BadStore, ("store",), shows_full, BINARY, None, None, last)
            self.refuses(BadLot, ("lot",), shows_full, BINARY, TWO, None, last)
            self.refuses(BadLot, ("lot",), shows_full, BINARY, TWO, HALVES * 300 + [None], last)
            self.refuses(TooMany, ("patterns", 400), shows_full, BINARY, TWO, HALVES * 201, last)


if __name__ == "__main__":
    unittest.main()
