import itertools
import unittest

import listing
from helpers import ANYTHING, Refusals
from sevenasone.errors import BadPattern, BadRule, BadStore, BadThing, BadTree, Misfit, NoHole, TooMany
from sevenasone.patterns import (boxes_of, common, filled, fits, holes_of, is_pattern, opened_at, pattern_text,
                                 read_pattern, trees_in, within)
from sevenasone.rules import Rule
from sevenasone.stores import Store, power_of
from test_trees import changed

RULES = [Rule(counts) for counts in ([1, 0, 1], [2, 1, 2], [1, 1, 1], [1, 0, 0, 1], [1, 0, 0, 0, 0, 1])]
STORES = [Store(counts) for counts in ([], [3], [0, 1], [1, 0, 1], [2, 1, 0, 1], [0, 3, 2])]
BINARY, TWO = RULES[0], Store([0, 0, 1])
LEAF, FORK = (0, 0), (2, 0, (), ())
ONE_PATTERN = (holes_of, pattern_text)


def is_part(counts, value):
    """Whether the value is a part of a pattern, as [9] tells it."""
    if type(value) not in (tuple, list):
        return False
    if len(value) < 2:
        return len(value) == 0
    parts, sort = value[:2]
    if type(parts) is not int or type(sort) is not int or not 0 <= parts < len(counts) or not 0 <= sort < counts[parts]:
        return False
    return len(value) == parts + 2 and all(is_part(counts, part) for part in value[2:])


def is_pattern_of(rule, store, value):
    if type(value) not in (tuple, list) or len(value) < 2:
        return False
    trees, index = value[:2]
    if type(trees) is not int or type(index) is not int or not 0 <= trees < len(store.counts):
        return False
    return (0 <= index < store.counts[trees] and len(value) == trees + 2
            and all(is_part(rule.counts, part) for part in value[2:]))


def some_patterns(rule, store, knots=3, most=60):
    found = listing.patterns_of(rule.counts, store.counts, knots)
    return found[::1 + len(found) // most]


def some_things(rule, store, size=6, most=60):
    found = listing.things_up_to(rule.counts, store.counts, size)
    return found[::1 + len(found) // most]


def cases():
    return [(rule, store) for rule in RULES for store in STORES]


class OnePattern(Refusals, unittest.TestCase):
    def test_patterns_are_patterns(self):
        for rule, store in cases():
            for pattern in some_patterns(rule, store) + some_things(rule, store):
                for value in (pattern, listing.listed(pattern)):
                    self.assertIs(is_pattern(rule, store, value), True)
                    self.exactly(holes_of(rule, store, value), listing.holes_of(pattern))
                    self.assertEqual(pattern_text(rule, store, value), " ".join(listing.items_of(pattern)))

    def test_one_place_changed(self):
        for rule in RULES[:3]:
            for store in STORES:
                for pattern in some_patterns(rule, store, most=6):
                    for value in changed(pattern):
                        expected = is_pattern_of(rule, store, value)
                        self.assertIs(is_pattern(rule, store, value), expected, value)
                        self.assertIs(is_pattern(rule, store, listing.listed(value)), expected, value)
                        if not expected:
                            for work in ONE_PATTERN:
                                self.refuses(BadPattern, ("pattern",), work, rule, store, value)

    def test_any_value(self):
        for value in ANYTHING + ("10", "1.0 -", {1: 0}, range(3), (1, 0, ""), (1, 0, b""), (1, 0, {}), (1, 0, None),
                                 (1, 0, range(0)), (1, 0, ((),)), (1, 0, [[]]), (1, 0), (1, 0, (), ()), (0, 0, ())):
            for store in (Store([]), Store([0, 1])):
                self.assertIs(is_pattern(BINARY, store, value), False)
                for work in ONE_PATTERN:
                    self.refuses(BadPattern, ("pattern",), work, BINARY, store, value)
                self.refuses(BadPattern, ("pattern",), fits, BINARY, store, value, (1, 0, LEAF))
                self.refuses(BadPattern, ("pattern",), trees_in, BINARY, store, value, None)
                self.refuses(BadPattern, ("pattern",), filled, BINARY, store, value, None)
                self.refuses(BadPattern, ("pattern",), opened_at, BINARY, store, value, 0)
                self.refuses(BadPattern, ("pattern",), opened_at, BINARY, store, value, None)
                for work in (within, common):
                    self.refuses(BadPattern, ("one",), work, BINARY, store, value, value)
            for work in (within, common):
                self.refuses(BadPattern, ("other",), work, BINARY, Store([0, 1]), (1, 0, ()), value)
                self.refuses(BadPattern, ("one",), work, BINARY, Store([0, 1]), value, (1, 0, ()))

    def test_refused_in_order(self):
        for value in ANYTHING + ((1, 0, 1), "1 0 1"):
            for work, more in ((is_pattern, 1), (holes_of, 1), (fits, 2), (trees_in, 2), (filled, 2), (within, 2),
                               (common, 2), (opened_at, 2), (boxes_of, 0), (pattern_text, 1), (read_pattern, 1)):
                self.refuses(BadRule, ("rule",), work, value, None, *[None] * more)
                self.refuses(BadRule, ("rule",), work, value, TWO, *[None] * more)
                self.refuses(BadStore, ("store",), work, BINARY, value, *[None] * more)

    def test_deep_ones(self):
        part = []
        for _ in range(57):
            part = [2, 0, part, [0, 0]]
        pattern = [2, 0, part, []]
        self.assertIs(is_pattern(BINARY, TWO, pattern), True)
        self.assertEqual(holes_of(BINARY, TWO, pattern), 2)
        self.assertEqual(pattern_text(BINARY, TWO, pattern), "2.0" + " 2.0" * 57 + " -" + " 0.0" * 57 + " -")
        self.assertEqual(listing.listed(read_pattern(BINARY, TWO, pattern_text(BINARY, TWO, pattern))), pattern)
        opened = opened_at(BINARY, TWO, pattern, 0)
        self.assertEqual(holes_of(BINARY, TWO, opened[1]), 3)
        self.assertTrue(within(BINARY, TWO, opened[1], pattern))

    def test_great_boxes(self):
        many = 10 ** 5000
        store = Store([0, many])
        for index in (0, 10 ** 59, 10 ** 60, many - 1):
            pattern = (1, index, FORK)
            self.assertEqual(read_pattern(BINARY, store, pattern_text(BINARY, store, pattern)), pattern)
            self.assertEqual(common(BINARY, store, pattern, (1, index, ())), pattern)
            self.assertIsNone(common(BINARY, store, pattern, (1, index + 1 if index == 0 else 0, ())))
        self.assertIs(is_pattern(BINARY, store, (1, many, ())), False)

    def test_what_is_passed_stays(self):
        pattern, thing, trees = [2, 0, [2, 0, [], []], []], [2, 0, [2, 0, [0, 0], [0, 0]], [0, 0]], [[0, 0]] * 3
        for work, more in ((is_pattern, ()), (holes_of, ()), (fits, (thing,)), (trees_in, (thing,)), (filled, (trees,)),
                           (within, (pattern,)), (common, (pattern,)), (opened_at, (1,)), (pattern_text, ())):
            work(BINARY, TWO, pattern, *more)
        self.exactly((pattern, thing, trees), ([2, 0, [2, 0, [], []], []], [2, 0, [2, 0, [0, 0], [0, 0]], [0, 0]],
                                               [[0, 0]] * 3))


class Texts(Refusals, unittest.TestCase):
    def test_there_and_back(self):
        for rule, store in cases():
            for pattern in some_patterns(rule, store):
                self.exactly(read_pattern(rule, store, pattern_text(rule, store, listing.listed(pattern))), pattern)
        self.exactly(read_pattern(RULES[1], Store([0, 0, 2]), "2.1 1.0 - 0.1"), (2, 1, (1, 0, ()), (0, 1)))
        self.assertEqual(pattern_text(BINARY, Store([3]), [0, 2]), "0.2")

    def test_read_what_is_no_string(self):
        for value in ANYTHING + (b"2.0 - -", ["2.0 - -"], (2, 0, (), ())):
            if not isinstance(value, str):
                self.refuses_text(0, read_pattern, BINARY, TWO, value)

    def test_read_items_that_cannot_stand(self):
        for text, item in (
                ("", 0), (" ", 0), (" 2.0 - -", 0), ("2.0 - - ", 3), ("2.0  - -", 1), ("2.0 - - -", 3), ("- -", 0),
                ("-", 0), ("0.0", 0), ("1.0 -", 0), ("2.1 - -", 0), ("3.0", 0), ("2.0 -- -", 1), ("2.0 - --", 2),
                ("2.0 -1 -", 1), ("2.0 -0 -", 1), ("2.0 () -", 1), ("2.0 - 1.0", 2), ("2.0 - 2.1", 2), ("2.0 - 0.1", 2),
                ("2.0 0.0 - -", 3), ("2.0 2.0 - - - 0.0", 5), ("02.0 - -", 0), ("2.00 - -", 0), ("+2.0 - -", 0),
                ("2.-0 - -", 0), ("2. - -", 0), (".0 - -", 0), ("2 - -", 0), ("2.0.0 - -", 0), ("2.0 00.0 -", 1),
                ("2.0 - 0.00", 2), ("2.0\t-\t-", 0), ("2.0 -\n-", 1), ("2.0 - -\n", 2), ("2.0 \u2212 -", 1),
                ("2.\u0660 - -", 0), ("2.0 - \u0660.0", 2), ("2.0 _ -", 1), ("2.0 -. -", 1), ("2.0 - -.-", 2),
                ("2.0 2.0 - x", 3), ("2.0 " + "-" * 90000, 1), ("2.0 - " + "0" * 70 + ".0", 2)):
            with self.subTest(text=text[:20]):
                self.refuses_text(item, read_pattern, BINARY, TWO, text)
        for text in ("0.0", "1.0 -", "-", "", "2.0 - -"):
            self.refuses_text(0, read_pattern, BINARY, Store([]), text)

    def test_read_missing_items(self):
        for rule, store in cases():
            for pattern in some_patterns(rule, store, most=12):
                items = listing.items_of(pattern)
                for end in range(1, len(items)):
                    self.refuses_text(end, read_pattern, rule, store, " ".join(items[:end]))
                for more in ("-", "0.0", "", "x"):
                    self.refuses_text(len(items), read_pattern, rule, store, " ".join(items + [more]))

    def test_a_long_text(self):
        text = "40.0" + " 2.0 -" * 40 + " -" * 40
        self.refuses_text(0, read_pattern, BINARY, power_of(39), text)
        text = "2.0 " + " ".join(["2.0 - -"] * 2)
        self.exactly(read_pattern(BINARY, TWO, text), (2, 0, FORK, FORK))
        row = ["-"] * 2 ** 13
        while len(row) > 1:
            row = ["2.0 " + row[at] + " " + row[at + 1] for at in range(0, len(row), 2)]
        pattern = read_pattern(BINARY, Store([0, 1]), "1.0 " + row[0])
        self.assertEqual(holes_of(BINARY, Store([0, 1]), pattern), 2 ** 13)
        self.assertEqual(pattern_text(BINARY, Store([0, 1]), pattern), "1.0 " + row[0])


class Things(Refusals, unittest.TestCase):
    def test_fits_and_trees_and_filled(self):
        for rule, store in cases():
            things = some_things(rule, store)
            for pattern in some_patterns(rule, store):
                given = listing.listed(pattern)
                for thing in things:
                    expected = listing.fits(pattern, thing)
                    self.assertIs(fits(rule, store, pattern, listing.listed(thing)), expected)
                    if expected:
                        trees = trees_in(rule, store, given, listing.listed(thing))
                        self.exactly(trees, tuple(listing.in_holes(pattern, thing)))
                        self.exactly(filled(rule, store, given, trees), thing)
                        self.exactly(filled(rule, store, pattern, listing.listed(trees)), thing)
                    else:
                        self.refuses(Misfit, ("thing",), trees_in, rule, store, pattern, thing)

    def test_filled_with_any_trees(self):
        for rule, store in cases():
            trees = [tree for size in range(1, 6) for tree in listing.trees_of(rule.counts, size)[:4]]
            for pattern in some_patterns(rule, store):
                holes = listing.holes_of(pattern)
                chosen = tuple(trees[(3 * hole + holes) % len(trees)] for hole in range(holes))
                thing = listing.with_trees(pattern, list(chosen))
                self.exactly(filled(rule, store, pattern, chosen), thing)
                self.exactly(trees_in(rule, store, pattern, thing), chosen)
                for many in (chosen + (trees[0],), chosen[1:]):
                    if len(many) != holes:
                        self.refuses(Misfit, ("trees",), filled, rule, store, pattern, many)

    def test_what_are_no_trees(self):
        pattern = (2, 0, (), LEAF)
        for value in ANYTHING + (LEAF, (0, 0, 0), ((1, 0, LEAF),), ((2, 0, LEAF),), [()], [LEAF, ()], (LEAF, FORK),
                                 {LEAF: LEAF}, "00", (LEAF, (0, True)), [LEAF, LEAF, (0, 1)]):
            if value not in ((), []) and value not in (((0, 0),), [[0, 0]]):
                self.refuses(BadTree, ("trees",), filled, BINARY, TWO, pattern, value)
        self.refuses(Misfit, ("trees",), filled, BINARY, TWO, pattern, ())
        self.refuses(Misfit, ("trees",), filled, BINARY, TWO, pattern, [LEAF, LEAF])
        self.exactly(filled(BINARY, TWO, [2, 0, [], [0, 0]], [[0, 0]]), (2, 0, LEAF, LEAF))
        self.exactly(filled(BINARY, Store([1]), [0, 0], []), (0, 0))

    def test_what_is_no_thing(self):
        for value in ANYTHING + ((2, 0, LEAF), (2, 0, LEAF, ()), (2, 0, FORK, LEAF), (2, 1, LEAF, LEAF), (0, 0)):
            self.refuses(BadThing, ("thing",), fits, BINARY, TWO, (2, 0, (), ()), value)
            self.refuses(BadThing, ("thing",), trees_in, BINARY, TWO, (2, 0, FORK, FORK), value)

    def test_great_trees(self):
        tree = LEAF
        for _ in range(11):
            tree = (2, 0, tree, tree)
        thing = (2, 0, tree, (2, 0, LEAF, tree))
        for pattern, trees in (((2, 0, (), ()), (tree, (2, 0, LEAF, tree))), ((2, 0, tree, (2, 0, (), ())), (LEAF, tree)),
                               (thing, ())):
            self.assertEqual(trees_in(BINARY, TWO, pattern, thing), trees)
            self.assertEqual(filled(BINARY, TWO, pattern, trees), thing)


class TwoPatterns(Refusals, unittest.TestCase):
    def test_by_their_things(self):
        """Whatever the document says of patterns by the things that fit: asked of all things of a size and below."""
        for rule, store in cases():
            # What tells two patterns apart has one knot more than the least thing that fits the one.
            knots = 1 if rule == RULES[1] else 2
            most = len(store.counts) - 1 + (knots + 1) * rule.top
            things = listing.things_up_to(rule.counts, store.counts, most)
            patterns = some_patterns(rule, store, knots=knots, most=20)
            fitting = [[listing.fits(pattern, thing) for thing in things] for pattern in patterns]
            for one, ones in zip(patterns, fitting):
                for other, others in zip(patterns, fitting):
                    below = all(second for first, second in zip(ones, others) if first)
                    self.assertIs(within(rule, store, one, listing.listed(other)), below)
                    both = common(rule, store, listing.listed(one), other)
                    self.exactly(both, common(rule, store, other, one))
                    together = [first and second for first, second in zip(ones, others)]
                    if both is None:
                        self.assertFalse(any(together))
                    else:
                        self.assertEqual(together, [listing.fits(both, thing) for thing in things])
                        self.assertTrue(within(rule, store, both, one) and within(rule, store, both, other))

    def test_common_ones_have_the_knots_of_both_and_nothing_else(self):
        store = Store([0, 0, 1])
        patterns = listing.patterns_of(BINARY.counts, store.counts, 3)
        for one, other in itertools.product(patterns, repeat=2):
            both = common(BINARY, store, one, other)
            if both is not None:
                self.assertLessEqual(listing.knots_of(both), listing.knots_of(one) + listing.knots_of(other) - 1)
                for pattern in patterns:
                    if within(BINARY, store, pattern, one) and within(BINARY, store, pattern, other):
                        self.assertTrue(within(BINARY, store, pattern, both))

    def test_boxes_apart(self):
        store = Store([2, 2])
        self.assertIsNone(common(BINARY, store, (1, 0, ()), (1, 1, ())))
        self.assertIsNone(common(BINARY, store, (0, 0), (0, 1)))
        self.assertIsNone(common(BINARY, store, (0, 0), (1, 0, ())))
        self.assertIs(within(BINARY, store, (1, 0, LEAF), (1, 1, ())), False)
        self.assertIs(within(BINARY, store, (0, 0), (0, 0)), True)
        self.exactly(common(BINARY, store, [0, 1], (0, 1)), (0, 1))

    def test_a_hole_and_much_behind_it(self):
        great = (2, 0, (2, 0, LEAF, ()), (2, 0, (), (2, 0, (), LEAF)))
        for one, other, both in (((2, 0, great, ()), (2, 0, (), great), (2, 0, great, great)),
                                 ((2, 0, great, LEAF), (2, 0, (), FORK), None),
                                 ((2, 0, (), LEAF), (2, 0, great, ()), (2, 0, great, LEAF)),
                                 ((2, 0, (2, 0, (), great), ()), (2, 0, (2, 0, great, ()), LEAF),
                                  (2, 0, (2, 0, great, great), LEAF))):
            self.exactly(common(BINARY, TWO, one, other), both)
            self.exactly(common(BINARY, TWO, other, one), both)

    def test_by_name(self):
        self.assertIs(within(other=(2, 0, (), ()), one=(2, 0, LEAF, ()), store=TWO, rule=BINARY), True)
        self.assertIs(within(one=(2, 0, (), ()), other=(2, 0, LEAF, ()), store=TWO, rule=BINARY), False)


class Opened(Refusals, unittest.TestCase):
    def test_at_any_hole(self):
        for rule, store in cases():
            for pattern in some_patterns(rule, store):
                for hole in range(listing.holes_of(pattern)):
                    found = opened_at(rule, store, listing.listed(pattern), hole)
                    self.exactly(found, tuple(listing.opened(rule.counts, pattern, hole)))
                    self.assertEqual(len(found), len(rule.knots))
                for hole in (-1, listing.holes_of(pattern), 10 ** 30):
                    self.refuses(NoHole, (hole,), opened_at, rule, store, pattern, hole)

    def test_each_thing_fits_just_one(self):
        for rule, store in cases():
            things = some_things(rule, store)
            for pattern in some_patterns(rule, store, most=15):
                for hole in range(listing.holes_of(pattern)):
                    found = opened_at(rule, store, pattern, hole)
                    for thing in things:
                        often = sum(fits(rule, store, one, thing) for one in found)
                        self.assertEqual(often, fits(rule, store, pattern, thing))

    def test_what_is_no_hole(self):
        for value in ANYTHING + (-1, 2, "0", (0,), [0]):
            if type(value) is not int or value not in (0, 1):
                self.refuses(NoHole, (value,), opened_at, BINARY, TWO, (2, 0, (), ()), value)
        for hole in (0, -1, 1, None):
            self.refuses(NoHole, (hole,), opened_at, BINARY, TWO, (2, 0, LEAF, LEAF), hole)
            self.refuses(NoHole, (hole,), opened_at, BINARY, Store([1]), (0, 0), hole)


class Boxes(Refusals, unittest.TestCase):
    def test_all(self):
        for store in STORES + [Store([400]), Store([0, 400]), Store([9] * 41), Store([200, 0, 200])]:
            self.exactly(boxes_of(BINARY, store), tuple(listing.boxes_alone(store.counts)))
            self.assertEqual(list(boxes_of(BINARY, store)), sorted(boxes_of(BINARY, store)))
            for pattern in boxes_of(BINARY, store):
                self.assertIs(is_pattern(BINARY, store, pattern), True)

    def test_too_many(self):
        for counts in ([401], [0, 401], [200, 201], [10] * 41, [0] * 40 + [401], [10 ** 30], [0, 10 ** 5000]):
            self.refuses(TooMany, ("patterns", 400), boxes_of, BINARY, Store(counts))


if __name__ == "__main__":
    unittest.main()
