import unittest

import listing
from helpers import ANYTHING, Refusals
from sevenasone.errors import BadRule, BadTree
from sevenasone.rules import Rule
from sevenasone.trees import is_tree, layers_of, read_tree, size_of, tree_text

RULES = [Rule(counts) for counts in ([1, 0, 1], [2, 1, 2], [1, 3, 1], [2, 0, 0, 1], [1, 1, 1, 1, 1, 1])]
LEAF = (0, 0)


def some_trees(rule):
    return [tree for size in range(1, 8) for tree in listing.trees_of(rule.counts, size)[:25]]


def changed(value):
    """The value with one place changed, in every way, all the way in."""
    for place in range(len(value) + 1):
        for new in (True, False, None, "0", "", -1, 3, 7, 10 ** 40, 0, 1, 2, (), [], LEAF, (0,), (0, 1), 0.0):
            if place < len(value):
                yield value[:place] + (new,) + value[place + 1:]
            yield value[:place] + (new,) + value[place:]
        if place < len(value):
            yield value[:place] + value[place + 1:]
            if isinstance(value[place], tuple):
                for new in changed(value[place]):
                    yield value[:place] + (new,) + value[place + 1:]


class Trees(Refusals, unittest.TestCase):
    def test_trees_are_trees(self):
        for rule in RULES:
            for tree in some_trees(rule):
                self.assertIs(is_tree(rule, tree), True)
                self.assertIs(is_tree(rule, listing.listed(tree)), True)

    def test_one_place_changed(self):
        for rule in RULES:
            for tree in some_trees(rule)[::9]:
                for value in changed(tree):
                    expected = listing.is_tree(rule.counts, value)
                    self.assertIs(is_tree(rule, value), expected, value)
                    self.assertIs(is_tree(rule, listing.listed(value)), expected, value)
                    if not expected:
                        for work in (size_of, layers_of, tree_text):
                            self.refuses(BadTree, ("tree",), work, rule, value)

    def test_any_value(self):
        for value in ANYTHING + ("00", "0.0", {0: 0, 1: 0}, range(2), b"\x00\x00"):
            self.assertIs(is_tree(RULES[0], value), False)
            for work in (size_of, layers_of, tree_text):
                self.refuses(BadTree, ("tree",), work, RULES[0], value)

    def test_size_and_layers(self):
        for rule in RULES:
            for tree in some_trees(rule):
                for value in (tree, listing.listed(tree)):
                    self.exactly(size_of(rule, value), listing.size_of(tree))
                    self.exactly(layers_of(rule, value), listing.layers_of(tree))

    def test_deep_trees(self):
        rule = RULES[0]
        left, right = LEAF, [0, 0]
        for _ in range(59):
            left, right = (2, 0, left, LEAF), [2, 0, [0, 0], right]
        for tree in (left, right):
            self.assertEqual((size_of(rule, tree), layers_of(rule, tree)), (119, 60))
        self.assertEqual(tree_text(rule, left), " ".join(["2.0"] * 59 + ["0.0"] * 60))
        self.assertEqual(tree_text(rule, right), "2.0 0.0 " * 59 + "0.0")
        self.assertEqual(read_tree(rule, tree_text(rule, left)), left)
        self.assertIs(is_tree(rule, (2, 0, left)), False)

    def test_texts_there_and_back(self):
        for rule in RULES:
            for tree in some_trees(rule):
                text = tree_text(rule, listing.listed(tree))
                self.assertEqual(text, tree_text(rule, tree))
                self.assertEqual(len(text.split(" ")), listing.size_of(tree))
                self.exactly(read_tree(rule, text), tree)
        self.assertEqual(tree_text(RULES[1], (2, 1, (1, 0, (0, 1)), LEAF)), "2.1 1.0 0.1 0.0")

    def test_a_long_text(self):
        row = [LEAF] * 2 ** 13
        while len(row) > 1:
            row = [(2, 0, *row[at:at + 2]) for at in range(0, len(row), 2)]
        text = tree_text(RULES[0], row[0])
        self.assertEqual(len(text), 4 * (2 ** 14 - 1) - 1)
        self.assertEqual(read_tree(RULES[0], text), row[0])
        self.refuses_text(2 ** 14 - 1, read_tree, RULES[0], text + " 0.0")
        self.refuses_text(2 ** 14 - 2, read_tree, RULES[0], text[:-4])

    def test_read_what_is_no_string(self):
        for value in ANYTHING + (b"0.0", ["0.0"], LEAF):
            if not isinstance(value, str):
                self.refuses_text(0, read_tree, RULES[0], value)

    def test_read_items_that_cannot_stand(self):
        for text, item in (
                ("", 0), (" ", 0), (" 0.0", 0), ("0.0 ", 1), ("2.0  0.0 0.0", 1), ("2.0 0.0 ", 2), ("2.0 0.0 0.0 ", 3),
                ("0.0 0.0", 1), ("0.0 x", 1), ("2.0 0.0 0.0 0.0", 3), ("0.1", 0), ("2.1", 0), ("1.0", 0), ("3.0", 0),
                ("2.0 1.0 0.0", 1), ("00.0", 0), ("0.00", 0), ("0.+0", 0), ("+0.0", 0), ("0.-0", 0), ("-0.0", 0),
                ("-1.0", 0), ("2.0 2", 1), ("0.", 0), (".0", 0), (".", 0), ("0", 0), ("0.0.0", 0), ("0,0", 0),
                ("2.0\t0.0\t0.0", 0), ("2.0 0.0\n0.0", 1), ("2.0 \u0660.0 0.0", 1), ("2.0 0.0 0.\u0660", 2),
                ("2.0\u00a00.0 0.0", 0), ("0.0\n", 0), ("2.0 0.0 0." + "0" * 60, 2), ("2." + "1" * 61 + " 0.0", 0),
                ("-", 0), ("0.0" * 30000, 0)):
            with self.subTest(text=text[:20]):
                self.refuses_text(item, read_tree, RULES[0], text)

    def test_read_missing_items(self):
        for rule in RULES:
            for tree in some_trees(rule)[::5]:
                items = tree_text(rule, tree).split(" ")
                for end in range(1, len(items)):
                    self.refuses_text(end, read_tree, rule, " ".join(items[:end]))
                self.refuses_text(len(items), read_tree, rule, " ".join(items + ["0.0"]))

    def test_rule_is_refused_ahead(self):
        for value in ANYTHING + ([1, 0, 1], "1 0 1", Rule):
            for work in (is_tree, size_of, layers_of, tree_text, read_tree):
                for last in (LEAF, "0.0", None):
                    self.refuses(BadRule, ("rule",), work, value, last)

    def test_what_is_passed_stays(self):
        tree = [2, 0, [0, 0], [2, 0, [0, 0], [0, 0]]]
        for work in (is_tree, size_of, layers_of, tree_text):
            work(RULES[0], tree)
            self.exactly(tree, [2, 0, [0, 0], [2, 0, [0, 0], [0, 0]]])


if __name__ == "__main__":
    unittest.main()
