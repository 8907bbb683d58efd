import itertools
import unittest

from helpers import ANYTHING, Refusals
from sevenasone.errors import BadRule
from sevenasone.rules import Rule

# Every rule of three, four numbers, and some longer ones.
ROWS = [row for size in (3, 4) for row in itertools.product(range(4), repeat=size) if row[0] and row[-1]]
ROWS += [(1, 0, 0, 0, 1), (3, 3, 3, 3, 3), (2, 0, 1, 3, 0, 1), (3, 3, 3, 3, 3, 3), (1, 0, 0, 0, 0, 1)]


class Rules(Refusals, unittest.TestCase):
    def test_attributes(self):
        for row in ROWS:
            rule = Rule(list(row))
            self.exactly(rule.counts, row)
            self.exactly(rule.knots, tuple(sorted((m, c) for m in range(len(row)) for c in range(row[m]))))
            self.assertEqual(rule.top, len(row) - 1)
            self.exactly(rule.stepped, (row[0], row[1] - 1) + row[2:])

    def test_lengths_and_bounds(self):
        for size in range(9):
            if 3 <= size <= 6:
                self.assertEqual(Rule((1,) * size).counts, (1,) * size)
            else:
                self.refuses(BadRule, ("counts",), Rule, (1,) * size)
        for place in range(4):
            for number in (-1, 0, 3, 4, 10 ** 30):
                row = [1, 1, 1, 1]
                row[place] = number
                if (1 if place in (0, 3) else 0) <= number <= 3:
                    self.assertEqual(Rule(row).counts, tuple(row))
                else:
                    self.refuses(BadRule, ("counts",), Rule, row)

    def test_refuses(self):
        for value in ANYTHING:
            self.refuses(BadRule, ("counts",), Rule, value)
        for place in range(3):
            for number in (True, False, None, "1", 1.0, [1], (1,)):
                row = [1, 1, 1]
                row[place] = number
                self.refuses(BadRule, ("counts",), Rule, row)
        for value in ("101", "1 0 1", {1: 1, 2: 2, 3: 3}, range(1, 4), Rule([1, 0, 1])):
            self.refuses(BadRule, ("counts",), Rule, value)

    def test_a_list_that_is_changed_behind(self):
        row = [1, 0, 1]
        rule = Rule(row)
        row[0] = 3
        row.append(2)
        self.assertEqual((rule.counts, rule.knots, rule.stepped), ((1, 0, 1), ((0, 0), (2, 0)), (1, -1, 1)))

    def test_equality(self):
        self.assertTrue(Rule([1, 0, 1]) == Rule((1, 0, 1)))
        self.assertFalse(Rule([1, 0, 1]) != Rule((1, 0, 1)))
        for other in (Rule([1, 0, 2]), Rule([1, 0, 0, 1]), Rule([2, 0, 1]), (1, 0, 1), "1 0 1", None, [1, 0, 1]):
            self.assertFalse(Rule([1, 0, 1]) == other)
            self.assertTrue(Rule([1, 0, 1]) != other)

    def test_there_and_back(self):
        for row in ROWS:
            self.assertEqual(str(Rule(row)), " ".join(map(str, row)))
            self.assertEqual(Rule.read(str(Rule(row))), Rule(row))
            self.exactly(Rule.read(str(Rule(row))).counts, row)

    def test_read_what_is_no_string(self):
        for value in ANYTHING + (b"1 0 1", [1, 0, 1], Rule([1, 0, 1])):
            if not isinstance(value, str):
                self.refuses_text(0, Rule.read, value)

    def test_read_items_that_cannot_stand(self):
        for text, item in (
                ("", 0), (" ", 0), (" 1 0 1", 0), ("1 0 1 ", 3), ("1  0 1", 1), ("1 0  1", 2), ("1 ", 1),
                ("+1 0 1", 0), ("1 +0 1", 1), ("01 0 1", 0), ("1 00 1", 1), ("1 0 01", 2), ("1 -0 1", 1),
                ("-1 0 1", 0), ("1 -1 1", 1), ("1 0 4", 2), ("1 4 1", 1), ("4 0 1", 0), ("0 1 1", 0), ("1 0 a", 2),
                ("1 0 1.0", 2), ("1 0 1_0", 2), ("1,0,1", 0), ("-", 0), ("1 0 -", 2), ("a 0 0", 0), ("1 a b", 1),
                ("1 0 " + "1" * 60, 2), ("1 0 " + "1" * 61, 2), ("1 " + "0" * 60 + " 1", 1),
                ("1 0 " + "1" * 5000, 2), ("1" * 99999, 0)):
            with self.subTest(text=text[:20]):
                self.refuses_text(item, Rule.read, text)

    def test_read_signs_that_are_not_plain_ascii(self):
        for text, item in (("\u0661 0 1", 0), ("1 \u0660 1", 1), ("1 0 \u00b9", 2), ("1 0 \uff11", 2),
                           ("1\u00a00\u00a01", 0), ("1\t0\t1", 0), ("1 0 1\n", 2), ("1 0\u20091", 1), ("1 0 1\u0661", 2)):
            with self.subTest(text=text):
                self.refuses_text(item, Rule.read, text)

    def test_read_too_many_and_missing_items(self):
        for text, item in (("1", 1), ("1 0", 2), ("3 3", 2), ("1 1 1 1 1 1 1", 6), ("1 1 1 1 1 1 a", 6),
                           ("1 1 1 1 1 1 1 1", 6), ("1 0 1 0 1 1 0", 6), (" ".join("1" * 50000), 6)):
            with self.subTest(text=text[:20]):
                self.refuses_text(item, Rule.read, text)

    def test_read_a_zero_at_the_last_place_that_is_let(self):
        for ahead in ("1 0 1 0 1", "2 0 0 3 0", "1 1 1 1 1", "3 0 0 0 0"):
            for behind in (" 0", " 0 0", " 0 1", " 0 x y", " 0 ", " 0  ", " 0 -1 3", " 0" * 1000, " 00", " -0 1"):
                with self.subTest(text=ahead + behind[:20]):
                    self.refuses_text(5, Rule.read, ahead + behind)
            for behind in (" 1 0", " 2 x", " 3 ", " 1 0 0"):
                with self.subTest(text=ahead + behind):
                    self.refuses_text(6, Rule.read, ahead + behind)
        self.refuses_text(4, Rule.read, "1 0 1 0 a 0 0")
        self.refuses_text(0, Rule.read, "0 0 1 0 0 0 0")

    def test_read_what_only_the_whole_shows(self):
        for text, item in (("1 0 0", 2), ("1 1 0", 2), ("1 0 1 0", 3), ("1 1 1 1 0", 4), ("1 1 1 1 1 0", 5),
                           ("1 0 0 0 0 0", 5)):
            with self.subTest(text=text):
                self.refuses_text(item, Rule.read, text)


if __name__ == "__main__":
    unittest.main()
