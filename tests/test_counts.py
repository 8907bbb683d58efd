import itertools
import unittest

from helpers import Refusals
from sevenasone.counts import counts_of, divided, is_counts, less, moved, plus, times
from sevenasone.errors import BadCounts, BadNumber

NO_ROW = (None, True, 7, "12", b"12", {}, {1, 2}, range(3), object(), [True], (1, False), [1, None], ["1"], [[1]],
          ((1,),), [1.0])
NO_COUNTS = NO_ROW + ([0], (0,), [1, 0], (0, 0), [0, 1, 0])
GREAT = 10 ** 5000
SMALL = [row for size in range(4) for row in itertools.product((-2, -1, 0, 1, 2), repeat=size)
         if size == 0 or row[-1] != 0]


def stripped(row):
    row = list(row)
    while row and row[-1] == 0:
        del row[-1]
    return tuple(row)


def worth(counts, at):
    """The sum of the counts times the powers of a number: sums and products of counts have those of these."""
    return sum(count * at ** place for place, count in enumerate(counts))


class Counts(Refusals, unittest.TestCase):
    def test_is_counts(self):
        for value in ((), [], [1], (-1,), [0, 0, 3], (GREAT,), [0, -GREAT]):
            self.assertIs(is_counts(value), True)
        for value in NO_COUNTS:
            self.assertIs(is_counts(value), False)

    def test_counts_of(self):
        for row, expected in (([], ()), ([0], ()), ((0, 0, 0), ()), ([0, 1, 0, 0], (0, 1)), ((-1,), (-1,)),
                              ([0, 0, GREAT, 0], (0, 0, GREAT))):
            self.assertEqual(counts_of(row), expected)
            self.assertIs(type(counts_of(row)), tuple)
        for row in NO_ROW:
            self.refuses(BadCounts, ("row",), counts_of, row)

    def test_counts_of_leaves_what_is_passed(self):
        row = [1, 0, 0]
        counts = counts_of(row)
        self.assertEqual(row, [1, 0, 0])
        row[0] = 5
        self.assertEqual(counts, (1,))

    def test_sums_differences_products(self):
        for one in SMALL[::3]:
            for other in SMALL:
                sums = [a + b for a, b in itertools.zip_longest(one, other, fillvalue=0)]
                rests = [a - b for a, b in itertools.zip_longest(one, other, fillvalue=0)]
                self.exactly(plus(list(one), other), stripped(sums))
                self.exactly(less(one, list(other)), stripped(rests))
                product = times(list(one), other)
                self.assertTrue(is_counts(product) and type(product) is tuple)
                self.assertEqual(len(product), len(one) + len(other) - 1 if one and other else 0)
                for at in (7, 100, -50):
                    self.assertEqual(worth(product, at), worth(one, at) * worth(other, at))

    def test_none_and_great_ones(self):
        for work in (plus, less, times):
            self.exactly(work([], ()), ())
        self.exactly(plus((), (0, -3)), (0, -3))
        self.exactly(less((), (0, -3)), (0, 3))
        self.exactly(less([1, 2], ()), (1, 2))
        self.exactly(times((), [1, 2]), ())
        self.assertEqual(plus([GREAT, 1], [-GREAT]), (0, 1))
        self.assertEqual(less([GREAT, 1], [GREAT, 1]), ())
        self.assertEqual(times([GREAT, -1], [GREAT, 1]), (GREAT * GREAT, 0, -1))

    def test_what_is_passed_stays(self):
        one, other = [1, 2, 3], [1, 1]
        for work in (plus, less, times, divided):
            work(one, other)
            work(other, one)
            self.assertEqual((one, other), ([1, 2, 3], [1, 1]))
        moved(one, 2)
        self.assertEqual(one, [1, 2, 3])

    def test_moved(self):
        self.exactly(moved([3, 0, 1], 0), (3, 0, 1))
        self.exactly(moved((-3,), 1), (0, -3))
        self.exactly(moved([1, 2], 4), (0, 0, 0, 0, 1, 2))
        self.exactly(moved([], 0), ())
        self.exactly(moved((), 10 ** 30), ())

    def test_moved_refuses(self):
        for value in NO_COUNTS:
            self.refuses(BadCounts, ("counts",), moved, value, 1)
            self.refuses(BadCounts, ("counts",), moved, value, -1)
        for number in (-1, True, False, None, "1", 1.0, [1], (), object()):
            self.refuses(BadNumber, ("number",), moved, [1], number)
            self.refuses(BadNumber, ("number",), moved, [], number)

    def test_sums_differences_products_refuse(self):
        for work in (plus, less, times):
            for value in NO_COUNTS:
                self.refuses(BadCounts, ("one",), work, value, [1])
                self.refuses(BadCounts, ("one",), work, value, [0])
                self.refuses(BadCounts, ("other",), work, [1], value)

    def test_division_by_last_number_one(self):
        self.exactly(divided([1, 2, 3, 4], [5, 1]), ((87, -17, 4), (-434,)))
        self.exactly(divided([1, 2], [0, 0, 1]), ((), (1, 2)))
        self.exactly(divided([], [3]), ((), ()))
        self.exactly(divided([6, 9], [3]), ((2, 3), ()))
        self.exactly(divided([7], [-1]), ((-7,), ()))

    def test_division_by_other_last_numbers(self):
        self.exactly(divided([1, 5, 6], [1, 2]), ((1, 3), ()))
        self.exactly(divided([1, 5, 6], [1, -2]), ((-4, -3), (5,)))
        self.exactly(divided([0, 0, -6], [1, -3]), ((0, 2), (0, -2)))
        self.assertEqual(divided([GREAT, 4 * GREAT], [1, 4]), ((GREAT,), ()))
        self.exactly(divided([4, 3], [2]), ((), (4, 3)))

    def test_division_stops_where_the_last_number_is_no_multiple(self):
        self.exactly(divided([0, 0, 0, 4], [1, 2]), ((0, -1, 2), (0, 1)))
        self.exactly(divided([0, 0, 6], [1, -3]), ((0, -2), (0, 2)))
        self.exactly(divided([1, 0, 1], [2, 0, -2]), ((), (1, 0, 1)))

    def test_division_that_shortens_by_more_than_one(self):
        self.exactly(divided([3, 0, 0, 1, 0, 1], [1, 0, 1]), ((0, 0, 0, 1), (3,)))
        self.exactly(divided([5, 0, 0, 2, 0, 2], [1, 0, 1]), ((0, 0, 0, 2), (5,)))
        self.exactly(divided([1, 0, 0, 0, 1, 1], [1, 1]), ((0, 0, 0, 0, 1), (1,)))

    def test_division_keeps_its_facts(self):
        for by in SMALL:
            if not by:
                continue
            for counts in SMALL + [(3, 0, -4, 2, 6), (0, 0, 0, 0, 2), (1, 2, 4, 8, -4)]:
                quotient, left = divided(counts, by)
                self.assertTrue(is_counts(quotient) and is_counts(left))
                self.assertEqual(plus(times(quotient, by), left), counts)
                self.assertTrue(len(left) < len(by) or left[-1] % by[-1] != 0)
                product = times(counts, by)
                self.exactly(divided(list(product), list(by)), (counts, ()))

    def test_division_refuses(self):
        for value in NO_COUNTS:
            self.refuses(BadCounts, ("counts",), divided, value, [1])
            self.refuses(BadCounts, ("counts",), divided, value, [])
            self.refuses(BadCounts, ("by",), divided, [1], value)
        for none in ((), []):
            self.refuses(BadCounts, ("by",), divided, [1], none)
            self.refuses(BadCounts, ("by",), divided, [], none)


if __name__ == "__main__":
    unittest.main()
