import random
import unittest

import listing
import tabling
from helpers import ANYTHING, Refusals
from sevenasone.check_tables import shows_same
from sevenasone.errors import BadTable, Misfit
from sevenasone.keeping import Changes, Keeps
from sevenasone.made import nothing_done
from sevenasone.papers import Denial, Paper
from sevenasone.rules import Rule
from sevenasone.same import Parted, Same, same
from sevenasone.stores import Store
from sevenasone.tables import Table
from test_check_lots import bent
from test_same import holes_exchanged, rights_exchanged, told
from test_tables import BINARY, FLIP, LEAF, OPENED, TWO, WHEEL, X, some_tables, things_of

NOTHING = nothing_done(BINARY, X)
TREE = (2, 0, LEAF, LEAF)


class SubSame(Same):
    pass


class SubParted(Parted):
    pass


class Shown(Refusals, unittest.TestCase):
    def test_same_and_parted_by_all_things(self):
        chosen = random.Random(1)
        seen = {"same": 0, "parted": 0, "things": 0}
        for table in some_tables(2):
            others = [told(table, 3, chosen), holes_exchanged(told(table, 2, chosen), chosen),
                      rights_exchanged(told(table, 2, chosen), chosen)]
            for other in [one for one in others if one is not None]:
                paper = same(table, other)
                seen[paper.word] += 1
                self.assertIs(shows_same(table, other, paper), True)
                self.assertIs(shows_same(other, table, paper), True)
                self.assertIs(shows_same(table, other, Same()), paper == Same())
                for thing in things_of(table, 12):
                    right = tabling.turned(table.pairs, thing) != tabling.turned(other.pairs, thing)
                    self.assertIs(shows_same(table, other, Parted(thing)), right)
                    self.assertIs(shows_same(table, other, Parted(listing.listed(thing))), right)
                    seen["things"] += right
        self.assertGreater(min(seen.values()), 60)

    def test_bent_things(self):
        thing = (1, 0, (2, 0, LEAF, TREE))
        self.assertIs(shows_same(FLIP, NOTHING, Parted(thing)), True)
        for value in list(bent(thing)) + [(1, 0, (2, 0, LEAF, (2, 0, LEAF, ()))), (1, 0, (2, 0, LEAF, (2, 1, LEAF, LEAF))),
                                          (1, 0, (2, 0, LEAF, (0, 1))), (1, False, thing[2]), (True, 0, thing[2])]:
            self.assertIs(shows_same(FLIP, NOTHING, Parted(value)), False)
        self.assertIs(shows_same(FLIP, NOTHING, Parted((1, 0, TREE))), False)
        self.assertIs(shows_same(FLIP, FLIP, Parted(thing)), False)

    def test_things_of_the_first_store_alone(self):
        """A thing of the store to which both lead is none of theirs."""
        other = Table(BINARY, X, OPENED.other, [((1, 0, LEAF), (0, 0), ()),
                                                ((1, 0, (2, 0, (), ())), (2, 0, (), ()), (1, 0))])
        self.assertIs(shows_same(OPENED, other, Parted((1, 0, (2, 0, LEAF, TREE)))), True)
        self.assertIs(shows_same(OPENED, other, Parted((2, 0, LEAF, TREE))), False)
        self.assertIs(shows_same(OPENED.backwards(), other.backwards(), Parted((2, 0, LEAF, TREE))), True)
        self.assertIs(shows_same(OPENED.backwards(), other.backwards(), Parted((1, 0, (2, 0, LEAF, TREE)))), False)

    def test_great_things(self):
        tree = LEAF
        for _ in range(12):
            tree = (2, 0, tree, tree)
        self.assertIs(shows_same(FLIP, NOTHING, Parted((1, 0, tree))), False)
        self.assertIs(shows_same(FLIP, NOTHING, Parted((1, 0, (2, 0, tree, LEAF)))), True)
        deep = LEAF
        for _ in range(55):
            deep = [2, 0, deep, [0, 0]]
        self.assertIs(shows_same(FLIP, NOTHING, Parted([1, 0, deep])), True)
        self.assertIs(shows_same(WHEEL.then(FLIP), FLIP.then(WHEEL), Parted([1, 0, deep])), True)

    def test_any_value(self):
        thing = (1, 0, (2, 0, LEAF, TREE))
        for value in ANYTHING + (Same, "same", Paper("same"), Denial("parted", thing), Paper("parted", thing), thing,
                                 SubSame(), SubParted(thing), Keeps(), Changes(thing)):
            self.assertIs(shows_same(FLIP, NOTHING, value), False)
            self.assertIs(shows_same(FLIP, FLIP, value), False)
            self.assertIs(shows_same(FLIP, NOTHING, Parted(value)), value == thing)
            self.assertIs(shows_same(FLIP, FLIP, Parted(value)), False)
        self.assertIs(shows_same(value=Same(), other=FLIP.then(FLIP), one=NOTHING), True)
        none = Table(BINARY, Store([]), Store([]), [])
        self.assertIs(shows_same(none, none, Same()), True)

    def test_refused_for_right_papers_too(self):
        other_rule = nothing_done(Rule([1, 1, 1]), X)
        for last in (Same(), Parted((1, 0, (2, 0, LEAF, TREE))), None):
            for value in ANYTHING:
                self.refuses(BadTable, ("one",), shows_same, value, value, last)
                self.refuses(BadTable, ("other",), shows_same, OPENED, value, last)
            self.refuses(Misfit, ("rules",), shows_same, OPENED, other_rule, last)
            self.refuses(Misfit, ("rules",), shows_same, FLIP, other_rule, last)
            for one, other in ((FLIP, OPENED), (OPENED, OPENED.backwards()), (FLIP, nothing_done(BINARY, TWO))):
                self.refuses(Misfit, ("stores",), shows_same, one, other, last)


if __name__ == "__main__":
    unittest.main()
