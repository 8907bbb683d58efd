import itertools
import random
import unittest

import listing
from helpers import ANYTHING, Refusals
from reckoning import added, product
from sevenasone.check_lots import shows_full
from sevenasone.counts import divided
from sevenasone.errors import BadLot, BadRule, BadStore, TooMany
from sevenasone.lots import Full, Missed, Twofold, finer, full, hole_counts
from sevenasone.papers import Denial, Paper
from sevenasone.patterns import boxes_of, common, opened_at
from sevenasone.rules import Rule
from sevenasone.stores import Store, power_of

RULES = [Rule(counts) for counts in ([1, 0, 1], [1, 1, 1], [2, 0, 1], [1, 0, 0, 1], [2, 1, 1], [1, 0, 0, 0, 0, 1])]
STORES = [Store(counts) for counts in ([0, 1], [0, 0, 1], [1, 2], [0, 0, 0, 1], [2, 0, 2], [1, 1, 1], [3], [])]
BINARY, X, TWO = RULES[0], Store([0, 1]), Store([0, 0, 1])
LEAF, FORK = (0, 0), (2, 0, (), ())
HALF = (2, 0, FORK, ())
HALVES = [(2, 0, LEAF, ()), HALF]
WINDING = [(3, 0, FORK, LEAF, ()), (3, 0, (), FORK, LEAF), (3, 0, LEAF, (), FORK), (3, 0, LEAF, LEAF, LEAF),
           (3, 0, FORK, FORK, FORK)]
THREE = Store([0, 0, 0, 1])


def least_things(rule, store, lot, most):
    """The parts of the Twofold and of the Missed of the least such things, None for none of this size at most."""
    twice = missed = None
    for thing in listing.things_up_to(rule.counts, store.counts, most):
        numbers = [number for number, pattern in enumerate(lot) if listing.fits(pattern, thing)]
        if len(numbers) > 1 and twice is None:
            twice = (thing, numbers[0], numbers[1])
        if not numbers and missed is None:
            missed = (thing,)
    return twice, missed


def size_of(thing):
    return sum(map(listing.size_of, thing[2:]))


def random_lots(many):
    """Lots of all kinds: by openings, with one left out, one more, any patterns."""
    chosen = random.Random(5)
    for number in range(many):
        rule, store = chosen.choice(RULES), chosen.choice(STORES)
        often = chosen.randrange(4) if store.is_endless else 0

        def some():
            return listing.opened_lot(rule.counts, store.counts, often, chosen)
        lot = some()
        if number % 4 == 1 and lot:
            lot.pop(chosen.randrange(len(lot)))
        if number % 4 == 2 and lot:
            lot.insert(chosen.randrange(len(lot) + 1), chosen.choice(some()))
        if number % 4 == 3 and lot:
            lot = [chosen.choice(some()) for _ in range(chosen.randrange(5))]
        yield rule, store, lot


def along(rule, store, most, chosen):
    """A full lot of so many patterns or just below: of each opened pattern the last one is opened, at any hole."""
    done = list(boxes_of(rule, store))
    while len(done) + len(rule.knots) - 1 <= most:
        last = done.pop()
        done += opened_at(rule, store, last, chosen.randrange(listing.holes_of(last)))
    return done


class FullLots(Refusals, unittest.TestCase):
    def right(self, rule, store, lot, paper):
        self.assertIs(shows_full(rule, store, lot, paper), True)
        self.assertEqual(full(rule, store, listing.listed(tuple(lot))), paper)

    def test_by_a_listing_of_things(self):
        told = {Full: 0, Twofold: 0, Missed: 0}
        for rule, store, lot in random_lots(1200):
            most = 7 if rule == RULES[4] else 9
            twice, missed = least_things(rule, store, lot, most)
            paper = full(rule, store, lot)
            self.right(rule, store, lot, paper)
            told[type(paper)] += 1
            if type(paper) is Full:
                self.assertEqual((twice, missed), (None, None))
            elif size_of(paper.thing) <= most:
                self.exactly(paper.parts, twice or missed)
                self.assertEqual(type(paper) is Twofold, twice is not None)
            else:
                self.assertIsNone(twice or (missed if type(paper) is Missed else None))
        self.assertGreater(min(told.values()), 200)

    def test_every_small_lot(self):
        """All lots of up to three patterns with few knots."""
        patterns = listing.patterns_of(BINARY.counts, TWO.counts, 2)
        full_ones = 0
        for many in range(4):
            for lot in itertools.combinations(patterns, many):
                twice, missed = least_things(BINARY, TWO, lot, 10)
                paper = full(BINARY, TWO, lot)
                self.exactly(paper.parts, twice or missed or ())
                self.assertEqual(type(paper), Twofold if twice else Missed if missed else Full)
                full_ones += paper == Full()
        # The box; opened at either hole; of those two patterns, one opened at one of their four holes.
        self.assertEqual(full_ones, 1 + 2 + 2 * 4)

    def test_by_openings_in_any_order(self):
        chosen = random.Random(6)
        for rule in RULES:
            for store in STORES[:6]:
                for often in (0, 1, 5, 12):
                    lot = listing.opened_lot(rule.counts, store.counts, often, chosen)
                    self.assertEqual(full(rule, store, lot), Full())
                    left_out = lot.pop(chosen.randrange(len(lot)))
                    paper = full(rule, store, lot)
                    self.assertEqual(paper.word, "missed")
                    filled = listing.with_trees(left_out, [LEAF] * listing.holes_of(left_out))
                    self.exactly(paper.thing, filled)

    def test_full_ones_that_come_of_no_openings(self):
        self.assertEqual(full(BINARY, THREE, WINDING), Full())
        for order in itertools.islice(itertools.permutations(WINDING), 0, 120, 7):
            self.assertEqual(full(BINARY, THREE, order), Full())
        for left_out in range(5):
            lot = WINDING[:left_out] + WINDING[left_out + 1:]
            self.exactly(full(BINARY, THREE, lot).parts, least_things(BINARY, THREE, lot, 9)[1])
        # Under two further trees, the last of them opened, and beside another box.
        store = Store([1, 0, 0, 0, 0, 1])
        lot = [(0, 0)]
        for part in (LEAF, FORK):
            lot += [(5,) + pattern[1:] + ((), part) for pattern in WINDING]
        self.assertEqual(full(BINARY, store, lot), Full())
        self.exactly(full(BINARY, store, lot[:-2] + lot[-1:]).parts,
                     ((5, 0, LEAF, LEAF, LEAF, LEAF, (2, 0, LEAF, LEAF)),))

    def test_windings_within_windings(self):
        """Each hole of winding gets winding's three trees by a knot with three parts: no place is in all patterns."""
        rule = Rule([1, 0, 0, 1])
        knot = (3, 0, (), (), ())
        winding = [(3, 0, knot, LEAF, ()), (3, 0, (), knot, LEAF), (3, 0, LEAF, (), knot), (3, 0, LEAF, LEAF, LEAF),
                   (3, 0, knot, knot, knot)]
        lot = []
        for pattern in winding:
            if () in pattern:
                hole = pattern.index(())
                for below in winding + [LEAF]:
                    lot.append(pattern[:hole] + (below,) + pattern[hole + 1:])
            else:
                lot.append(pattern)
        self.assertEqual(full(rule, THREE, lot), Full())
        for left_out in range(len(lot)):
            few = lot[:left_out] + lot[left_out + 1:]
            missed = lot[left_out]
            self.exactly(full(rule, THREE, few).parts, (listing.with_trees(missed, [LEAF] * 99),))

    def test_weights_alone_do_not_make_it_full(self):
        for lot in ([(2, 0, LEAF, ()), (2, 0, (), LEAF)], [(2, 0, LEAF, ())] * 2, [(2, 0, FORK, ()), (2, 0, (), FORK)]):
            self.exactly(full(BINARY, TWO, lot).parts, least_things(BINARY, TWO, lot, 8)[0])
        self.exactly(full(BINARY, Store([2]), [(0, 0), (0, 0)]).parts, ((0, 0), 0, 1))
        self.exactly(full(BINARY, Store([0, 2]), [(1, 1, LEAF), (1, 1, FORK)]).parts, ((1, 0, LEAF),))

    def test_the_least_two_numbers(self):
        lot = [HALF, (2, 0, LEAF, ()), HALF, (2, 0, LEAF, LEAF), (2, 0, (), LEAF)]
        self.exactly(full(BINARY, TWO, lot).parts, ((2, 0, LEAF, LEAF), 1, 3))
        self.exactly(full(BINARY, TWO, lot[:1] + lot[2:4]).parts, ((2, 0, (2, 0, LEAF, LEAF), LEAF), 0, 1))
        self.exactly(full(BINARY, TWO, [FORK, FORK, (2, 0, LEAF, LEAF)]).parts, ((2, 0, LEAF, LEAF), 0, 1))
        self.exactly(full(BINARY, TWO, [(2, 0, LEAF, LEAF), HALF, FORK, FORK]).parts, ((2, 0, LEAF, LEAF), 0, 2))

    def test_twofold_goes_ahead_of_missed(self):
        lot = [(2, 0, FORK, FORK)] * 2
        self.exactly(full(BINARY, TWO, lot).word, "twofold")
        self.exactly(full(BINARY, TWO, lot).parts, ((2, 0, (2, 0, LEAF, LEAF), (2, 0, LEAF, LEAF)), 0, 1))

    def test_the_least_as_tuples_compare(self):
        rule = Rule([2, 0, 1])
        for store, lot, thing in (
                (TWO, [(2, 0, (0, 0), ())], (2, 0, (0, 1), (0, 0))),
                (TWO, [(2, 0, (0, 0), ()), (2, 0, (0, 1), (0, 0))], (2, 0, (0, 1), (0, 1))),
                (TWO, [(2, 0, (), (0, 0)), (2, 0, (), (0, 1))],
                 (2, 0, (0, 0), (2, 0, (0, 0), (0, 0)))),
                (Store([0, 2]), [(1, 0, (0, 0)), (1, 0, (0, 1)), (1, 1, (0, 0))], (1, 1, (0, 1))),
                (Store([0, 3]), [(1, 0, ()), (1, 2, ())], (1, 1, (0, 0))),
                (Store([0, 1, 1]), [(1, 0, (0, 0)), (1, 0, (0, 1))], (2, 0, (0, 0), (0, 0))),
                (Store([1, 1]), [(1, 0, ())], (0, 0)), (Store([1, 1]), [], (0, 0)), (Store([0, 1]), [], (1, 0, (0, 0))),
                (Store([0, 0, 0, 1]), [(3, 0, (0, 0), (), ()), (3, 0, (0, 1), (), (0, 0)), (3, 0, (0, 1), (), (0, 1))],
                 (3, 0, (0, 1), (0, 0), (2, 0, (0, 0), (0, 0))))):
            self.exactly(full(rule, store, lot).parts, (thing,))

    def test_finite_stores_and_none(self):
        for rule in RULES:
            self.assertEqual(full(rule, Store([]), []), Full())
            self.assertEqual(full(rule, Store([3]), [(0, 2), (0, 0), (0, 1)]), Full())
            self.exactly(full(rule, Store([3]), [(0, 2), (0, 0)]).parts, ((0, 1),))
            self.exactly(full(rule, Store([3]), ()).parts, ((0, 0),))
            self.exactly(full(rule, Store([3]), [(0, 2), (0, 0), (0, 2)]).parts, ((0, 2), 0, 2))

    def test_refused_in_order(self):
        pattern = (2, 0, (), ())
        for value in ANYTHING + ((1, 0, 1), "1 0 1"):
            for work, more in ((full, ()), (hole_counts, ()), (shows_full, (Full(),))):
                self.refuses(BadRule, ("rule",), work, value, None, None, *more)
                self.refuses(BadRule, ("rule",), work, value, TWO, [pattern] * 401, *more)
                self.refuses(BadStore, ("store",), work, BINARY, value, None, *more)
                self.refuses(BadStore, ("store",), work, BINARY, value, [pattern] * 401, *more)
                if value not in ((), []):
                    self.refuses(BadLot, ("lot",), work, BINARY, TWO, value, *more)
                self.refuses(BadLot, ("lot",), work, BINARY, TWO, [pattern, value], *more)
                self.refuses(BadLot, ("lot",), work, BINARY, TWO, [pattern] * 401 + [value], *more)
                self.refuses(TooMany, ("patterns", 400), work, BINARY, TWO, [pattern] * 401, *more)
        for value in (pattern, {pattern: pattern}, [(2, 1, (), ())], [(2, 0, LEAF)], "2.0 - -"):
            self.refuses(BadLot, ("lot",), full, BINARY, TWO, value)
        self.assertEqual(full(lot=[pattern], store=TWO, rule=BINARY), Full())

    def test_papers(self):
        self.assertEqual((Full().word, Full().parts, bool(Full())), ("full", (), True))
        self.assertNotIsInstance(Full(), Denial)
        self.assertIsInstance(Full(), Paper)
        for made, word, names in ((Twofold, "twofold", ("thing", "one", "other")), (Missed, "missed", ("thing",))):
            self.assertTrue(issubclass(made, Denial))
            for value in ANYTHING + ([1, [2]],):
                given = (value, [value], 3)[:len(names)]
                paper = made(*given)
                self.assertEqual((paper.word, bool(paper)), (word, False))
                self.assertEqual(made(**dict(zip(names, given))), paper)
                self.exactly(paper.parts, tuple(getattr(paper, name) for name in names))
        self.exactly(Twofold([2, [0]], 1, 2).parts, ((2, (0,)), 1, 2))
        self.assertNotEqual(Full(), Paper("full"))
        with self.assertRaises(TypeError):
            Full(1)


class GreatLots(Refusals, unittest.TestCase):
    """Answers come in a short time: what goes wrong here takes minutes."""

    def test_four_hundred_patterns_by_any_openings(self):
        chosen = random.Random(7)
        for rule in (BINARY, Rule([1, 1, 1]), Rule([3, 3, 3, 3, 3, 3]), Rule([1, 0, 0, 0, 0, 1])):
            often = 399 // (len(rule.knots) - 1)
            lot = listing.opened_lot(rule.counts, X.counts, often, chosen)
            self.assertEqual(full(rule, X, lot), Full())
            self.assertEqual(full(rule, X, lot[1:]).word, "missed")
            self.assertEqual(full(rule, X, lot[:399] + lot[:1]).word, "twofold")
            if len(lot) < 400:
                self.exactly(full(rule, X, lot + lot[-1:]).parts[1:], (len(lot) - 1, len(lot)))

    def test_four_hundred_patterns_along_one(self):
        chosen = random.Random(8)
        for rule in (BINARY, Rule([1, 0, 0, 0, 0, 1])):
            lot = along(rule, X, 400, chosen)
            self.assertEqual(len(lot), 400)
            self.assertEqual(full(rule, X, lot), Full())
            for left_out in (200, 399):
                missed = listing.with_trees(lot[left_out], [LEAF] * listing.holes_of(lot[left_out]))
                few = lot[:left_out] + lot[left_out + 1:]
                self.assertEqual(full(rule, X, few), Missed(missed))
                self.assertIs(shows_full(rule, X, few, Missed(missed)), True)
            self.assertEqual(len(finer(rule, X, lot, lot)), len(lot))
            self.assertEqual(finer(rule, X, lot, boxes_of(rule, X)), tuple(sorted(lot)))

    def test_deep_patterns(self):
        for hole in (0, -1):
            lot, last = [], (1, 0, ())
            for _ in range(57):
                leafed, last = opened_at(BINARY, X, last, hole % listing.holes_of(last))
                lot.append(leafed)
            self.assertEqual(full(BINARY, X, lot + [last]), Full())
            thing = listing.with_trees(last, [LEAF] * 99)
            self.assertEqual(full(BINARY, X, lot).thing, thing)

    def test_great_patterns(self):
        tree = LEAF
        for _ in range(10):
            tree = (2, 0, tree, tree)
        lot = [(2, 0, tree, ()), (2, 0, (), tree)]
        self.assertEqual(full(BINARY, TWO, lot), Twofold((2, 0, tree, tree), 0, 1))
        self.assertEqual(full(BINARY, TWO, lot[:1]), Missed((2, 0, LEAF, LEAF)))
        lot = [(2, 0, tree, (0, 0)), (2, 0, tree, FORK)] + [(2, 0, (2, 0, (), ()), LEAF), (2, 0, LEAF, ())]
        self.assertEqual(full(BINARY, TWO, lot), Twofold((2, 0, tree, LEAF), 0, 2))
        self.assertEqual(full(BINARY, TWO, [(2, 0, tree, ())] * 400), Twofold((2, 0, tree, LEAF), 0, 1))

    def test_many_that_overlap(self):
        store = power_of(40)
        lot = [(40, 0) + ((),) * place + (LEAF,) + ((),) * (39 - place) for place in range(40)]
        lot += [(40, 0) + ((),) * place + (FORK,) + ((),) * (39 - place) for place in range(40)]
        lot += [lot[place][:41] + (LEAF,) for place in range(40, 79)] + lot * 3
        self.assertEqual(full(BINARY, store, lot[:400]), Twofold((40, 0) + (LEAF,) * 40, 0, 1))
        forks = [(40, 0) + ((),) * place + (FORK,) + ((),) * (39 - place) for place in range(40)] * 10
        thing = (40, 0) + (LEAF,) * 39 + ((2, 0, LEAF, LEAF),)
        self.assertEqual(full(BINARY, store, forks), Twofold(thing, 39, 79))
        thing = (40, 0) + (LEAF,) * 38 + ((2, 0, LEAF, LEAF),) * 2
        self.assertEqual(full(BINARY, store, forks[:40]), Twofold(thing, 38, 39))
        self.assertEqual(full(BINARY, store, forks[:1]), Missed((40, 0) + (LEAF,) * 40))

    def test_a_thousand_boxes_and_many_more(self):
        for counts in ([1000], [500, 500], [0, 1000], [24] * 41, [0] * 40 + [1000]):
            store = Store(counts)
            lot = listing.boxes_alone(counts)
            least = listing.with_trees(lot[400], [LEAF] * 99)
            self.assertEqual(full(BINARY, store, lot[:400]), Missed(least))
            self.assertEqual(full(BINARY, store, lot[1:401]), Missed(listing.with_trees(lot[0], [LEAF] * 99)))
            self.assertEqual(full(BINARY, store, lot[:399] + lot[5:6]).word, "twofold")
            self.assertEqual(sum(hole_counts(BINARY, store, lot[:400])), 400)
        for counts in ([400], [200, 200], [0, 400], [9] * 40 + [40]):
            lot = listing.boxes_alone(counts)
            self.assertEqual(full(BINARY, Store(counts), lot), Full())
            self.assertEqual(full(BINARY, Store(counts), lot[:-1]),
                             Missed(listing.with_trees(lot[-1], [LEAF] * 99)))
        self.assertEqual(full(BINARY, Store([0, 10 ** 30]), [(1, 0, ())]), Missed((1, 1, LEAF)))

    def test_few_patterns_that_leave_much(self):
        store = power_of(40)
        lot = [(40, 0) + (LEAF,) * many + (FORK,) + ((),) * (39 - many) for many in range(40)]
        self.assertEqual(full(BINARY, store, lot), Missed((40, 0) + (LEAF,) * 40))
        self.assertEqual(full(BINARY, store, lot + [(40, 0) + (LEAF,) * 40]), Full())
        lot = [(40, 0) + (FORK,) * many + (LEAF,) + ((),) * (39 - many) for many in range(40)]
        self.assertEqual(full(BINARY, store, lot), Missed((40, 0) + ((2, 0, LEAF, LEAF),) * 40))


class Finer(Refusals, unittest.TestCase):
    def test_by_common_ones(self):
        chosen = random.Random(9)
        for rule in RULES:
            for store in STORES:
                for _ in range(6):
                    often = chosen.randrange(5) if store.is_endless else 0
                    one, other = [listing.opened_lot(rule.counts, store.counts, often, chosen) for _ in range(2)]
                    expected = [common(rule, store, first, second) for first in one for second in other]
                    found = finer(rule, store, listing.listed(tuple(one)), other)
                    self.exactly(found, tuple(sorted(pattern for pattern in expected if pattern is not None)))
                    self.assertEqual(full(rule, store, found), Full())
                    self.exactly(finer(rule, store, other, one), found)
                    self.exactly(finer(rule, store, one, one), tuple(sorted(one)))

    def test_of_winding(self):
        self.exactly(finer(BINARY, THREE, WINDING, [(3, 0, (), (), ())]), tuple(sorted(WINDING)))
        found = finer(BINARY, THREE, WINDING, [(3, 0, LEAF, (), ()), (3, 0, FORK, (), ())])
        self.assertEqual(full(BINARY, THREE, found), Full())
        self.assertEqual(len(found), 6)

    def test_holes_ascend_ahead_of_knots(self):
        found = finer(BINARY, TWO, [(2, 0, (), LEAF), (2, 0, (), FORK)], [(2, 0, (), ())])
        self.exactly(found, ((2, 0, (), LEAF), (2, 0, (), FORK)))
        self.exactly(finer(BINARY, TWO, HALVES[::-1], [(2, 0, (), ())]), tuple(HALVES))

    def test_too_many_common_ones(self):
        chosen = random.Random(10)
        one = [(2, 0) + part + ((),) for part in
               [pattern[2:] for pattern in listing.opened_lot(BINARY.counts, (0, 1), 19, chosen)]]
        other = [(2, 0, ()) + pattern[2:] for pattern in listing.opened_lot(BINARY.counts, (0, 1), 19, chosen)]
        self.assertEqual((len(one), len(other)), (20, 20))
        self.assertEqual(len(finer(BINARY, TWO, one, other)), 400)
        more = other[:-1] + list(opened_at(BINARY, TWO, (2, 0, (), FORK), 0))
        self.assertEqual(full(BINARY, TWO, more).word, "twofold")
        at = next(place for place, pattern in enumerate(other) if listing.holes_of(pattern) > 1)
        more = other[:at] + list(opened_at(BINARY, TWO, other[at], 1)) + other[at + 1:]
        self.refuses(TooMany, ("patterns", 400), finer, BINARY, TWO, one, more)
        self.refuses(TooMany, ("patterns", 400), finer, BINARY, TWO, more, one)
        great = [along(BINARY, X, 400, chosen), along(BINARY, X, 400, chosen)]
        sides = [[(2, 0, pattern[2], ()) for pattern in great[0]], [(2, 0, (), pattern[2]) for pattern in great[1]]]
        self.refuses(TooMany, ("patterns", 400), finer, BINARY, TWO, *sides)

    def test_refused_in_order(self):
        whole, many = [(2, 0, (), ())], [(2, 0, (), ())] * 401
        for value in ANYTHING + ((1, 0, 1), "1 0 1"):
            self.refuses(BadRule, ("rule",), finer, value, None, None, None)
            self.refuses(BadStore, ("store",), finer, BINARY, value, None, None)
            if value not in ((), []):
                for other in (None, whole, many, HALVES[1:]):
                    self.refuses(BadLot, ("one",), finer, BINARY, TWO, value, other)
                for one in (whole, many, HALVES[1:]):
                    self.refuses(BadLot, ("other",), finer, BINARY, TWO, one, value)
                    self.refuses(BadLot, ("other",), finer, BINARY, TWO, one, [value])
        for one, other in ((many, whole), (whole, many), (many, HALVES[1:]), (HALVES[1:], many), (many, many)):
            self.refuses(TooMany, ("patterns", 400), finer, BINARY, TWO, one, other)
        for lot in ([], HALVES[1:], HALVES + HALVES[:1], HALVES + [(2, 0, LEAF, LEAF)]):
            self.refuses(BadLot, ("one",), finer, BINARY, TWO, lot, whole)
            self.refuses(BadLot, ("one",), finer, BINARY, TWO, lot, HALVES[1:])
            self.refuses(BadLot, ("other",), finer, BINARY, TWO, whole, lot)
        self.exactly(finer(BINARY, Store([]), [], []), ())
        self.exactly(finer(other=HALVES, one=whole, store=TWO, rule=BINARY), tuple(HALVES))


class HoleCounts(unittest.TestCase):
    def test_of_any_lot(self):
        for rule, store, lot in random_lots(300):
            expected = [sum(listing.holes_of(pattern) == holes for pattern in lot) for holes in range(30)]
            self.assertEqual(hole_counts(rule, store, lot), added(expected, ()))
            if full(rule, store, lot):
                change = added(hole_counts(rule, store, lot), store.counts, -1)
                quotient, left = divided(change, rule.stepped)
                self.assertEqual(left, ())
                self.assertEqual(product(quotient, rule.stepped), change)
        self.assertEqual(hole_counts(BINARY, TWO, []), ())
        self.assertEqual(hole_counts(BINARY, TWO, [(2, 0, LEAF, LEAF)] * 3), (3,))
        self.assertEqual(hole_counts(BINARY, TWO, [[2, 0, [], [0, 0]], FORK]), (0, 1, 1))


if __name__ == "__main__":
    unittest.main()
