import unittest

from helpers import ANYTHING, Refusals
from sevenasone.errors import BadNumber, BadStore, TooMany
from sevenasone.stores import Store, power_of

GREAT = 10 ** 5000
ROWS = [(), (1,), (7,), (0, 1), (2, 1), (0, 1, 1), (0, 0, 0, 2), (3, 0, 1), (10 ** 20, 0, 10 ** 59)]


def boxes_of(row):
    return [(trees, index) for trees, boxes in enumerate(row) for index in range(boxes)]


class Stores(Refusals, unittest.TestCase):
    def test_attributes(self):
        for row in ROWS + [(0,) * 40 + (1,), (GREAT, GREAT)]:
            store = Store(list(row))
            self.assertEqual(store.counts, row)
            self.assertIs(type(store.counts), tuple)
            self.assertIs(store.is_endless, any(row[1:]))
            self.assertEqual(store.many, sum(row))

    def test_refuses(self):
        for value in ANYTHING:
            if value not in ((), []):
                self.refuses(BadStore, ("counts",), Store, value)
        for value in ((1, 0), [0, 0], [-1], [1, -1], [-1, 1], [1, True], [True], [1, None], ["1"], [1.0], [[1]],
                      "1 1", b"11", {0: 1}, range(1, 3), Store([1]), [0] * 50, [-1] * 50, [1] * 50 + ["1"]):
            self.refuses(BadStore, ("counts",), Store, value)

    def test_forty_one_numbers_and_forty_two(self):
        self.assertEqual(Store([1] * 41).counts, (1,) * 41)
        self.assertEqual(Store([0] * 40 + [2]).counts, (0,) * 40 + (2,))
        for row in ([1] * 42, [0] * 41 + [1], [0] * 99999 + [1]):
            self.refuses(TooMany, ("trees", 40), Store, row)

    def test_a_list_that_is_changed_behind(self):
        row = [1, 2]
        store = Store(row)
        row.append(3)
        row[0] = 5
        self.assertEqual((store.counts, store.many, str(store)), ((1, 2), 3, "1 2"))

    def test_has(self):
        for row in ROWS[:-1]:
            store, boxes = Store(row), boxes_of(row)
            for trees in range(-2, 6):
                for index in range(-2, 9):
                    self.assertIs(store.has((trees, index)), (trees, index) in boxes)
                    self.assertIs(store.has([trees, index]), (trees, index) in boxes)

    def test_has_any_value(self):
        store = Store([2, 2])
        for value in ANYTHING:
            self.assertIs(store.has(value), False)
            self.assertIs(store.has((1, value)), type(value) is int and value in (0, 1))
            self.assertIs(store.has((value, 1)), type(value) is int and value in (0, 1))
            self.assertIs(store.has((1, 1, value)), False)
        for value in ("11", b"11", {0: 0, 1: 1}, {0, 1}, range(2)):
            self.assertIs(store.has(value), False)
        self.assertIs(Store([0, GREAT]).has((1, GREAT - 1)), True)
        self.assertIs(Store([0, GREAT]).has((1, GREAT)), False)

    def test_plus_by_counting(self):
        for one in ROWS:
            for other in ROWS:
                expected = [0] * 8
                for row in (one, other):
                    for trees, boxes in enumerate(row):
                        expected[trees] += boxes
                both = Store(one).plus(Store(other))
                self.assertEqual(list(both.counts) + [0] * (8 - len(both.counts)), expected)
                self.assertEqual(both, Store(other).plus(Store(one)))
                for third in ROWS:
                    self.assertEqual(both.plus(Store(third)), Store(one).plus(Store(other).plus(Store(third))))

    def test_times_by_counting(self):
        for one in ROWS[:-1]:
            for other in ROWS[:-1]:
                expected = [0] * 9
                for first in boxes_of(one):
                    for second in boxes_of(other):
                        expected[first[0] + second[0]] += 1
                both = Store(one).times(Store(other))
                self.assertEqual(list(both.counts) + [0] * (9 - len(both.counts)), expected)
                self.assertEqual(both, Store(other).times(Store(one)))
                for third in ROWS:
                    self.assertEqual(both.times(Store(third)), Store(one).times(Store(other).times(Store(third))))

    def test_great_ones(self):
        self.assertEqual(Store([GREAT]).plus(Store([1, 1])).counts, (GREAT + 1, 1))
        self.assertEqual(Store([GREAT, 1]).times(Store([0, GREAT])).counts, (0, GREAT * GREAT, GREAT))

    def test_the_store_without_boxes(self):
        none = Store([])
        for row in ROWS:
            self.assertEqual(none.plus(Store(row)), Store(row))
            self.assertEqual(none.times(Store(row)), none)
            self.assertEqual(Store(row).times(none), none)
            self.assertEqual(Store(row).times(Store([1])), Store(row))
        self.assertEqual((str(none), none.many, none.is_endless, none.counts), ("-", 0, False, ()))
        self.assertIs(none.has((0, 0)), False)
        self.assertEqual(Store([0] * 40 + [1]).times(none), none)

    def test_plus_and_times_refuse(self):
        for value in ANYTHING + ((1, 2), "1 2"):
            self.refuses(BadStore, ("other",), Store([1]).plus, value)
            self.refuses(BadStore, ("other",), Store([1]).times, value)

    def test_times_too_many_trees(self):
        for one, other in ((40, 1), (1, 40), (20, 21), (40, 40)):
            self.refuses(TooMany, ("trees", 40), power_of(one).times, power_of(other))
        self.assertEqual(power_of(20).times(power_of(20)), power_of(40))

    def test_operands_stay(self):
        one, other = Store([1, 2]), Store([0, 0, 3])
        one.plus(other)
        one.times(other)
        self.assertEqual((one.counts, other.counts), ((1, 2), (0, 0, 3)))

    def test_power_of(self):
        for number in (0, 1, 39, 40):
            self.exactly(power_of(number).counts, (0,) * number + (1,))
        for value in (-1, 41, 10 ** 30, True, False, None, "1", [1], (), 1.0):
            self.refuses(BadNumber, ("number",), power_of, value)

    def test_equality(self):
        self.assertTrue(Store([1, 2]) == Store((1, 2)))
        self.assertFalse(Store([1, 2]) != Store((1, 2)))
        for other in (Store([]), Store([2, 1]), Store([1, 2, 1]), Store([1]), (1, 2), "1 2", None):
            self.assertFalse(Store([1, 2]) == other)
            self.assertTrue(Store([1, 2]) != other)

    def test_there_and_back(self):
        for row in ROWS + [(0,) * 40 + (1,), (10 ** 60 - 1,)]:
            self.assertEqual(str(Store(row)), " ".join(map(str, row)) if row else "-")
            self.assertEqual(Store.read(str(Store(row))), Store(row))
        self.exactly(Store.read("0 1 1").counts, (0, 1, 1))

    def test_great_numbers_are_written(self):
        self.assertEqual(str(Store([10 ** 60])), "1" + "0" * 60)
        self.assertEqual(str(Store([10 ** 70 + 5, 1])), "1" + "0" * 69 + "5 1")
        self.assertEqual(str(Store([GREAT + 7])), "1" + "0" * 4999 + "7")

    def test_read_what_is_no_string(self):
        for value in ANYTHING + (b"1", ["1"], [1], Store([1])):
            if not isinstance(value, str):
                self.refuses_text(0, Store.read, value)

    def test_read_items_that_cannot_stand(self):
        for text, item in (
                ("", 0), (" ", 0), (" 1", 0), ("1 ", 1), ("1  1", 1), ("1 1 ", 2), ("+1", 0), ("1 +1", 1), ("01", 0),
                ("1 00", 1), ("1 00 1", 1), ("-0", 0), ("1 -0 1", 1), ("-1", 0), ("1 -1", 1), ("a", 0), ("1 1a", 1),
                ("1.0", 0), ("1_0", 0), ("1,1", 0), ("--", 0), ("1 -", 1), ("0 - 1", 1), ("1 - -", 1), ("- 1", 1),
                ("- -", 1), ("- ", 1), (" -", 0), ("- 1 1", 1), ("1" * 61, 0), ("0 " + "9" * 61, 1), ("1" * 99999, 0),
                ("0 1 " + "0" * 60 + "1", 2), ("\u0661", 0), ("1 \u00b2", 1), ("1\u00a01", 0), ("1\t1", 0), ("1\n", 0),
                ("1 1\u2009", 1)):
            with self.subTest(text=text[:20]):
                self.refuses_text(item, Store.read, text)
        self.assertEqual(Store.read("9" * 60).counts, (10 ** 60 - 1,))
        self.assertEqual(Store.read("0 " + "9" * 60).counts, (0, 10 ** 60 - 1))

    def test_read_a_forty_second_count(self):
        self.assertEqual(Store.read(" ".join("1" * 41)).counts, (1,) * 41)
        self.refuses_text(41, Store.read, " ".join("1" * 42))
        self.refuses_text(41, Store.read, " ".join("1" * 41 + "x"))
        self.refuses_text(41, Store.read, " ".join("1" * 50000))
        self.refuses_text(41, Store.read, "1 " * 41)

    def test_read_a_zero_as_the_forty_first_count(self):
        for ahead in ("1" + " 0" * 39, "0" + " 0" * 39, " ".join("7" * 40)):
            for behind in (" 0", " 0 0", " 0 3", " 0 -1 3", " 0 x", " 0 ", " 0 -", " 0" * 1000, " 00", " -0 1"):
                with self.subTest(text=ahead + behind[:20]):
                    self.refuses_text(40, Store.read, ahead + behind)
            for behind in (" 1 0", " 1 3", " 5 ", " 1 x", " 1 -"):
                with self.subTest(text=ahead + behind):
                    self.refuses_text(41, Store.read, ahead + behind)
            self.assertEqual(str(Store.read(ahead + " 1")), ahead + " 1")
        self.refuses_text(39, Store.read, "1" + " 0" * 38 + " a 0 0")

    def test_read_what_only_the_whole_shows(self):
        for text, item in (("0", 0), ("1 0", 1), ("0 0 0", 2), ("1 0 1 0", 3), (" ".join("1" * 40 + "0"), 40)):
            self.refuses_text(item, Store.read, text)


if __name__ == "__main__":
    unittest.main()
