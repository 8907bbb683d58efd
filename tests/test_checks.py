import unittest

from helpers import ANYTHING, Refusals
from sevenasone.checks import first_twice, is_integer, is_numbers, is_within


class Checks(Refusals, unittest.TestCase):
    def test_is_integer(self):
        for value in ANYTHING:
            self.assertIs(is_integer(value), type(value) is int)
        self.assertIs(is_integer(-10 ** 100), True)

    def test_is_within_any_value(self):
        for value in ANYTHING:
            self.assertIs(is_within(value, None, None), type(value) is int)
            self.assertIs(is_within(value, -1, 1), type(value) is int and value in (-1, 0, 1))

    def test_is_within_bounds_met_and_missed(self):
        for value, expected in ((2, False), (3, True), (4, True), (5, True), (6, False)):
            self.assertIs(is_within(value, 3, 5), expected)
        self.assertIs(is_within(3, None, 2), False)
        self.assertIs(is_within(2, None, 2), True)
        self.assertIs(is_within(-10 ** 50, None, 2), True)
        self.assertIs(is_within(2, 3, None), False)
        self.assertIs(is_within(3, 3, None), True)
        self.assertIs(is_within(10 ** 50, 3, None), True)
        self.assertIs(is_within(4, 5, 3), False)
        self.assertIs(is_within(0, 0, 0), True)
        self.assertIs(is_within(False, 0, 0), False)
        self.assertIs(is_within(True, 1, 1), False)

    def test_is_numbers(self):
        for value in ((), [], [0], (0,), [1, -2, 10 ** 30], (3, 3)):
            self.assertIs(is_numbers(value), True)
        for value in (None, True, 5, "12", "", b"12", {}, {1: 2}, {1, 2}, range(3), (True,), [1, False], [1, None],
                      [1, "2"], [1, [2]], ((1,),), [1.0], object()):
            self.assertIs(is_numbers(value), False)

    def test_first_twice_of_integers_and_strings(self):
        self.assertIsNone(first_twice([]))
        self.assertIsNone(first_twice(()))
        self.assertIsNone(first_twice([1]))
        self.assertIsNone(first_twice([1, 2, 3, "1", "2"]))
        self.assertEqual(first_twice([1, 2, 3, 3, 1]), 3)
        self.assertEqual(first_twice((1, 2, 2, 1)), 2)
        self.assertEqual(first_twice([0, 5, 0]), 0)
        self.assertEqual(first_twice(["b", "a", "", "", "a"]), "")
        self.assertEqual(first_twice(["a", 1, "1", "a"]), "a")
        self.assertEqual(first_twice([10 ** 5000, -1, 10 ** 5000]), 10 ** 5000)

    def test_first_twice_of_tuples(self):
        self.assertEqual(first_twice([(1, 2), (2, 1), (1, 2), (2, 1)]), (1, 2))
        self.assertIsNone(first_twice([(), ((),), ((), ()), (1,), 1, ((1,),), "1", ("1",)]))
        self.assertEqual(first_twice([(1, ("a", ())), (), (1, ("a", ()))]), (1, ("a", ())))
        self.assertIsNone(first_twice([(1, (2, 3)), (1, 2, 3), ((1, 2), 3), (1, (2,), 3)]))
        deep, other = (), (1,)
        for _ in range(58):
            deep, other = (deep,), (other,)
        self.assertIsNone(first_twice([deep, other]))
        self.assertEqual(first_twice([deep, other, deep]), deep)

    def test_first_twice_takes_lists_for_tuples(self):
        self.exactly(first_twice([[1, [2]], (1, (2,))]), (1, (2,)))

    def test_first_twice_leaves_what_is_passed(self):
        values = [[1], [2], [1]]
        first_twice(values)
        self.assertEqual(values, [[1], [2], [1]])

    def test_first_twice_of_many(self):
        many = list(range(50000))
        self.assertIsNone(first_twice(many))
        self.assertEqual(first_twice(many + [49999, 0]), 49999)


if __name__ == "__main__":
    unittest.main()
