import unittest

from helpers import ANYTHING, Refusals
from sevenasone.papers import Denial, Paper, fixed


class Note(Paper):
    def __init__(self, text):
        Paper.__init__(self, "note", text)


class Papers(Refusals, unittest.TestCase):
    def test_fixed_lists_and_tuples(self):
        self.exactly(fixed([]), ())
        self.exactly(fixed([[[]], ([], [1, (2, [3])])]), (((),), ((), (1, (2, (3,))))))
        deep, expected = [], ()
        for _ in range(59):
            deep, expected = [deep, (1, [2])], (expected, (1, (2,)))
        self.assertEqual(fixed(deep), expected)

    def test_fixed_leaves_other_values(self):
        for value in ANYTHING:
            if not isinstance(value, (list, tuple)):
                self.assertIs(fixed(value), value)
                self.assertIs(fixed([0, [value]])[1][0], value)
        inner = {1: [2], "a": [[]]}
        self.assertIs(fixed([inner])[0], inner)
        self.assertEqual(inner, {1: [2], "a": [[]]})

    def test_fixed_leaves_what_is_passed(self):
        value = [1, [2, [3]]]
        fixed(value)
        self.exactly(value, [1, [2, [3]]])

    def test_word_and_parts(self):
        for made in (Paper, Denial):
            paper = made("note", [1, [2]], True, None, "a")
            self.assertEqual(paper.word, "note")
            self.exactly(paper.parts, ((1, (2,)), True, None, "a"))
            self.exactly(made("none").parts, ())

    def test_parts_stay_what_they_were(self):
        inner = [2]
        row = [1, inner]
        for made in (Paper, Denial):
            paper = made("note", row)
            inner.append(3)
            row.append(4)
            self.exactly(paper.parts, ((1, (2,)),))
            row.pop()
            inner.pop()

    def test_truth(self):
        for parts in ((), (0,), (False,), ([],)):
            self.assertIs(bool(Paper("note", *parts)), True)
            self.assertIs(bool(Denial("note", *parts)), False)
        self.assertIs(bool(Paper("")), True)

    def test_equality(self):
        for made in (Paper, Denial):
            self.assertTrue(made("note", [1], 2) == made("note", (1,), 2))
            self.assertFalse(made("note", [1], 2) != made("note", (1,), 2))
            for other in (made("noted", (1,), 2), made("note", (1,)), made("note", (1,), 3), made("note", 2, (1,)),
                          made("note", (1,), 2, None), made("note", ((1,), 2))):
                self.assertFalse(made("note", [1], 2) == other)
                self.assertTrue(made("note", [1], 2) != other)
        self.assertTrue(Paper("note", 1) == Paper("note", True))

    def test_equality_within_one_class_only(self):
        papers = (Paper("note", 1), Denial("note", 1), Note(1))
        for one in range(3):
            for other in range(3):
                self.assertIs(papers[one] == papers[other], one == other)
        for value in ANYTHING + ("note", ("note", (1,)), (1,)):
            for paper in papers:
                self.assertFalse(paper == value)
                self.assertTrue(value != paper)

    def test_what_is_below_what(self):
        self.assertTrue(issubclass(Denial, Paper))
        self.assertFalse(isinstance(Paper("note"), Denial))


if __name__ == "__main__":
    unittest.main()
