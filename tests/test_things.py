import unittest

import listing
from helpers import ANYTHING, Refusals
from sevenasone.errors import BadNumber, BadRule, BadStore, BadThing, TooMany
from sevenasone.rules import Rule
from sevenasone.stores import Store, power_of
from sevenasone.things import is_thing, read_thing, shifted, thing_size, thing_text, things_to
from test_trees import changed

RULES = [Rule(counts) for counts in ([1, 0, 1], [2, 1, 2], [1, 1, 1], [1, 0, 0, 1], [1, 0, 0, 0, 0, 1])]
STORES = [Store(counts) for counts in ([], [3], [0, 1], [1, 0, 1], [2, 1, 0, 1], [0, 3, 2], [1, 1, 1, 1, 1])]
BINARY, BOTH = RULES[0], STORES[3]
GREAT = 10 ** 5000
LEAF = (0, 0)


def is_thing_of(rule, store, value):
    """Whether the value is a thing, as [5] tells it."""
    if type(value) not in (tuple, list) or len(value) < 2:
        return False
    trees, index = value[:2]
    if type(trees) is not int or type(index) is not int or not 0 <= trees < len(store.counts):
        return False
    return (0 <= index < store.counts[trees] and len(value) == trees + 2
            and all(listing.is_tree(rule.counts, tree) for tree in value[2:]))


def some_things(rule, store):
    return listing.things_up_to(rule.counts, store.counts, 5)[:40]


class Things(Refusals, unittest.TestCase):
    def test_things_are_things(self):
        for rule in RULES:
            for store in STORES:
                for thing in some_things(rule, store):
                    self.assertIs(is_thing(rule, store, thing), True)
                    self.assertIs(is_thing(rule, store, listing.listed(thing)), True)

    def test_one_place_changed(self):
        for rule in RULES[:3]:
            for store in STORES:
                for thing in some_things(rule, store)[::7]:
                    for value in changed(thing):
                        expected = is_thing_of(rule, store, value)
                        self.assertIs(is_thing(rule, store, value), expected, value)
                        self.assertIs(is_thing(rule, store, listing.listed(value)), expected, value)
                        if not expected:
                            for work in (thing_size, thing_text):
                                self.refuses(BadThing, ("thing",), work, rule, store, value)

    def test_any_value(self):
        for value in ANYTHING + ("00", "0.0", {0: 0, 1: 0}, range(2)):
            for store in (Store([]), Store([0, 1])):
                self.assertIs(is_thing(BINARY, store, value), False)
                for work in (thing_size, thing_text):
                    self.refuses(BadThing, ("thing",), work, BINARY, store, value)
                self.refuses(BadThing, ("thing",), shifted, BINARY, Store([1]), store, value)

    def test_sizes(self):
        for rule in RULES:
            for store in STORES:
                for thing in some_things(rule, store):
                    size = sum(map(listing.size_of, thing[2:]))
                    self.exactly(thing_size(rule, store, thing), size)
                    self.exactly(thing_size(rule, store, listing.listed(thing)), size)

    def test_texts_there_and_back(self):
        for rule in RULES:
            for store in STORES:
                for thing in some_things(rule, store):
                    text = thing_text(rule, store, listing.listed(thing))
                    self.assertEqual(text, thing_text(rule, store, thing))
                    self.exactly(read_thing(rule, store, text), thing)
        self.assertEqual(thing_text(RULES[1], STORES[5], (2, 1, LEAF, (1, 0, (0, 1)))), "2.1 0.0 1.0 0.1")
        self.assertEqual(thing_text(BINARY, STORES[1], [0, 2]), "0.2")

    def test_boxes_of_great_numbers(self):
        store = Store([0, 10 ** 20, GREAT])
        for index in (0, 10 ** 20 - 1):
            thing = (1, index, LEAF)
            self.assertEqual(thing_text(BINARY, store, thing), f"1.{index} 0.0")
            self.assertEqual(read_thing(BINARY, store, f"1.{index} 0.0"), thing)
        self.refuses_text(0, read_thing, BINARY, store, f"1.{10 ** 20} 0.0")
        for index in (10 ** 59, 10 ** 60 - 1, 10 ** 60, 7 * 10 ** 4990 + 12345, GREAT - 1):
            thing = (2, index, LEAF, LEAF)
            self.assertIs(is_thing(BINARY, store, thing), True)
            self.assertEqual(read_thing(BINARY, store, thing_text(BINARY, store, thing)), thing)
        self.assertIs(is_thing(BINARY, store, (2, GREAT, LEAF, LEAF)), False)
        self.refuses_text(0, read_thing, BINARY, store, "2.1" + "0" * 5000 + " 0.0 0.0")
        self.refuses_text(0, read_thing, BINARY, store, "2." + "9" * 99000)

    def test_read_what_is_no_string(self):
        for value in ANYTHING + (b"0.0", ["0.0"], (0, 0)):
            if not isinstance(value, str):
                self.refuses_text(0, read_thing, BINARY, BOTH, value)

    def test_read_items_that_cannot_stand(self):
        for text, item in (
                ("", 0), (" ", 0), (" 0.0", 0), ("0.0 ", 1), ("0.0 0.0", 1), ("0.1", 0), ("1.0 0.0", 0), ("3.0", 0),
                ("2.0  0.0 0.0", 1), ("2.0 0.0 1.0", 2), ("2.0 0.0 0.0 ", 3), ("2.0 0.0 0.0 0.0", 3), ("2.0 0.0 0.1", 2),
                ("2.1 0.0 0.0", 0), ("00.0", 0), ("0.00", 0), ("+0.0", 0), ("0.-0", 0), ("-0.0", 0), ("-1.0", 0), ("0", 0),
                ("0.", 0), (".0", 0), (".", 0), ("0.0.0", 0), ("-", 0), ("2.\u0660 0.0 0.0", 0), ("2.0\u00a00.0 0.0", 0),
                ("2.0\t0.0 0.0", 0), ("2.0 2.0 - 0.0", 2), ("2.0 0.0 0.0\n", 2), ("2 0 0.0 0.0", 0)):
            with self.subTest(text=text):
                self.refuses_text(item, read_thing, BINARY, BOTH, text)
        for text in ("0.0", "1.0 0.0", "-", ""):
            self.refuses_text(0, read_thing, BINARY, Store([]), text)

    def test_read_missing_items(self):
        for text, item in (("2.0", 1), ("2.0 0.0", 2), ("2.0 2.0 0.0", 3), ("2.0 0.0 2.0", 3), ("2.0 2.0 0.0 0.0", 4)):
            self.refuses_text(item, read_thing, BINARY, BOTH, text)

    def test_refused_in_order(self):
        for value in ANYTHING + ((1, 0, 1), "1 0 1"):
            for work in (is_thing, thing_size, thing_text, read_thing, things_to):
                self.refuses(BadRule, ("rule",), work, value, None, None)
                self.refuses(BadStore, ("store",), work, BINARY, value, None)
            self.refuses(BadRule, ("rule",), shifted, value, None, None, None)
            self.refuses(BadStore, ("one",), shifted, BINARY, value, None, None)
            self.refuses(BadStore, ("other",), shifted, BINARY, BOTH, value, None)

    def test_what_is_passed_stays(self):
        thing = [2, 0, [0, 0], [0, 0]]
        for work in (is_thing, thing_size, thing_text):
            work(BINARY, BOTH, thing)
        shifted(BINARY, BOTH, BOTH, thing)
        self.exactly(thing, [2, 0, [0, 0], [0, 0]])


class Lists(Refusals, unittest.TestCase):
    def test_by_another_way_of_listing(self):
        for rule in RULES:
            for store in STORES:
                for size in range(8):
                    expected = listing.things_up_to(rule.counts, store.counts, size)
                    if len(expected) <= 400:
                        self.exactly(things_to(rule, store, size), tuple(expected))
                    else:
                        self.refuses(TooMany, ("things", 400), things_to, rule, store, size)

    def test_order(self):
        things = things_to(RULES[1], Store([1, 1, 1]), 3)
        keys = [(sum(map(listing.size_of, thing[2:])), thing) for thing in things]
        self.assertEqual(keys, sorted(keys))
        self.assertEqual(len(set(things)), len(things))

    def test_sizes_at_their_bounds(self):
        self.exactly(things_to(BINARY, Store([2, 5, 1]), 0), ((0, 0), (0, 1)))
        self.exactly(things_to(BINARY, Store([2]), 200), ((0, 0), (0, 1)))
        for size in (-1, 201, 10 ** 30, True, False, None, "1", 1.0, (), [1]):
            self.refuses(BadNumber, ("size",), things_to, BINARY, BOTH, size)
        self.refuses(BadNumber, ("size",), things_to, BINARY, Store([401]), 201)

    def test_four_hundred_and_one_more(self):
        for store, size in (([400], 0), ([400], 200), ([0, 400], 1), ([0, 400], 2), ([200, 200], 2), ([0, 200], 3),
                            ([0, 0, 400], 3), ([0, 100], 5), ([390, 0, 0, 0, 0, 10], 6)):
            store = Store(store)
            expected = listing.things_up_to(BINARY.counts, store.counts, size) if size < 200 else None
            things = things_to(BINARY, store, size)
            self.assertEqual(len(things), 400)
            if expected is not None:
                self.exactly(things, tuple(expected))
            self.refuses(TooMany, ("things", 400), things_to, BINARY, store.plus(Store([1])), size)

    def test_finite_stores_and_none(self):
        for size in (0, 1, 30, 200):
            self.exactly(things_to(BINARY, Store([]), size), ())
            self.exactly(things_to(RULES[4], Store([3]), size), ((0, 0), (0, 1), (0, 2)))

    def test_many_boxes(self):
        for rule in RULES + [Rule([3] * 6), Rule([3, 3, 3])]:
            for store in (Store([0, 1000]), Store([1000]), Store([25] * 40), Store([0] * 40 + [1000]),
                          Store([10 ** 20] * 41), Store([0, GREAT])):
                self.refuses(TooMany, ("things", 400), things_to, rule, store, 200)
        self.exactly(things_to(BINARY, Store([1] + [0] * 9 + [10 ** 20]), 9), ((0, 0),))
        self.refuses(TooMany, ("things", 400), things_to, BINARY, Store([1] + [0] * 9 + [10 ** 20]), 10)
        self.assertEqual(len(things_to(RULES[4], power_of(40), 45)), 41)
        self.assertEqual(things_to(RULES[4], power_of(40), 40), ((40, 0) + (LEAF,) * 40,))
        self.exactly(things_to(RULES[4], Store([0, 1]), 5), ((1, 0, LEAF),))

    def test_only_boxes_that_are_there_count(self):
        self.assertEqual(len(things_to(Rule([1, 0, 0, 0, 0, 1]), Store([0, 1]), 25)), 1 + 1 + 5 + 35 + 285)
        self.refuses(TooMany, ("things", 400), things_to, Rule([1, 0, 0, 0, 0, 1]), Store([0, 1]), 26)


class Shifted(Refusals, unittest.TestCase):
    def test_every_thing_of_small_stores(self):
        for rule in RULES[:3]:
            for one in STORES:
                for other in STORES:
                    both = one.plus(other)
                    came = []
                    for thing in some_things(rule, other):
                        ahead = one.counts[thing[0]] if thing[0] < len(one.counts) else 0
                        expected = (thing[0], thing[1] + ahead) + thing[2:]
                        self.exactly(shifted(rule, one, other, listing.listed(thing)), expected)
                        self.assertTrue(is_thing(rule, both, expected))
                        came.append(expected)
                    self.assertFalse(set(came) & set(listing.things_up_to(rule.counts, one.counts, 5)))

    def test_all_things_of_both(self):
        one, other = Store([1, 2]), Store([2, 1, 1])
        expected = things_to(BINARY, one.plus(other), 5)
        came = things_to(BINARY, one, 5) + tuple(shifted(BINARY, one, other, thing)
                                                 for thing in things_to(BINARY, other, 5))
        self.assertEqual(sorted(came), sorted(expected))

    def test_refuses_what_is_no_thing_of_other(self):
        self.refuses(BadThing, ("thing",), shifted, BINARY, Store([1, 1]), Store([1]), (1, 0, LEAF))
        self.refuses(BadThing, ("thing",), shifted, BINARY, Store([5]), Store([1]), (0, 1))


if __name__ == "__main__":
    unittest.main()
