"""Papers of every class of the package: how they are made, what they keep, what they equal."""

import importlib
import itertools
import os
import unittest

from helpers import ANYTHING, HERE, Refusals
from sevenasone.alike import Divided, Finite, Undivided
from sevenasone.chains import Led
from sevenasone.keeping import Changes, Keeps
from sevenasone.looks import Looked, Stuck
from sevenasone.lots import Full, Missed, Twofold
from sevenasone.papers import Denial, Paper, fixed
from sevenasone.powers import Never, Round
from sevenasone.same import Parted, Same

PAPERS = {Led: ("steps",), Divided: ("quotient",), Round: ("number", "factors"), Full: (), Looked: ("ways",), Same: (),
          Keeps: ()}
DENIALS = {Finite: ("which",), Undivided: ("left",), Never: ("why", "what"), Twofold: ("thing", "one", "other"),
           Missed: ("thing",), Stuck: ("pattern",), Parted: ("thing",), Changes: ("thing",)}
CLASSES = {**PAPERS, **DENIALS}
VALUES = ANYTHING + ([1, [2, (3, [])]], ((1, 0, ()), []), [[[]]], [{1: [2]}], "twice")


def fillings(names):
    """Some rows of as many values as there are names."""
    return [tuple(VALUES[(start + 5 * place) % len(VALUES)] for place in range(len(names)))
            for start in range(len(VALUES) if names else 1)]


class AllPapers(Refusals, unittest.TestCase):
    def test_these_are_all(self):
        found = set()
        for name in os.listdir(os.path.join(os.path.dirname(HERE), "sevenasone")):
            if name.endswith(".py") and name != "__init__.py":
                held = vars(importlib.import_module("sevenasone." + name[:-3])).values()
                found |= {one for one in held if isinstance(one, type) and issubclass(one, Paper)}
        self.assertEqual(found, set(CLASSES) | {Paper, Denial})
        for made in CLASSES:
            self.assertTrue(issubclass(made, Paper))
            self.assertEqual(issubclass(made, Denial), made in DENIALS)
            self.assertEqual(made.__name__.lower(), made(*[0] * len(CLASSES[made])).word)

    def test_by_place_and_by_name(self):
        for made, names in CLASSES.items():
            for values in fillings(names):
                paper = made(*values)
                self.exactly(paper.parts, tuple(fixed(value) for value in values))
                self.assertIs(type(paper.parts), tuple)
                self.exactly([getattr(paper, name) for name in names], [fixed(value) for value in values])
                for order in itertools.permutations(zip(names, values)):
                    again = made(**dict(order))
                    self.assertTrue(again == paper and not again != paper)
                    self.exactly(again.parts, paper.parts)
                self.assertEqual(made(*[list(value) if isinstance(value, tuple) else value for value in values]), paper)

    def test_true_and_false(self):
        for made, names in CLASSES.items():
            for values in fillings(names):
                self.assertIs(bool(made(*values)), made in PAPERS)
        for values in fillings(("one", "two")):
            self.assertIs(bool(Paper("note", *values)), True)
            self.assertIs(bool(Denial("note", *values)), False)

    def test_lists_that_are_changed_behind(self):
        for made, names in CLASSES.items():
            given = [[place, [place, []]] for place in range(len(names))]
            paper = made(*given)
            for row in given:
                row[1][1].append(7)
                row.append(9)
            self.exactly(paper.parts, tuple((place, (place, ())) for place in range(len(names))))
            self.exactly([getattr(paper, name) for name in names], list(paper.parts))

    def test_equal_just_to_their_like(self):
        some = [made(*values) for made, names in CLASSES.items() for values in fillings(names)[::3]]
        some += [make(made.__name__.lower(), *values) for make in (Paper, Denial) for made, names in CLASSES.items()
                 for values in fillings(names)[::9]]
        for one, other in itertools.product(some, repeat=2):
            like = type(one) is type(other) and one.word == other.word and one.parts == other.parts
            self.assertIs(one == other, like)
            self.assertIs(one != other, not like)
        for one in some:
            for value in ANYTHING + (one.parts, one.word, type(one)):
                self.assertFalse(one == value)
                self.assertTrue(one != value)

    def test_wrong_numbers_of_parts(self):
        for made, names in CLASSES.items():
            with self.assertRaises(TypeError):
                made(*[0] * (len(names) + 1))
            if names:
                with self.assertRaises(TypeError):
                    made(*[0] * (len(names) - 1))


if __name__ == "__main__":
    unittest.main()
