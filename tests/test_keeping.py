import random
import unittest

import listing
import tabling
from helpers import ANYTHING, Refusals
from sevenasone.chains import Chain
from sevenasone.check_sizes import shows_keeping
from sevenasone.errors import BadTable
from sevenasone.keeping import Changes, Keeps, keeps_size
from sevenasone.made import nothing_done, table_of
from sevenasone.papers import Denial, Paper
from sevenasone.rules import Rule
from sevenasone.stores import Store
from sevenasone.tables import Table
from sevenasone.things import is_thing
from test_chains import some_chains
from test_same import told
from test_tables import BINARY, FLIP, FORK, LEAF, OPENED, RULES, STORES, TWO, WHEEL, X, some_tables, things_of


def size_of(thing):
    return sum(map(listing.size_of, thing[2:]))


class SubKeeps(Keeps):
    pass


class SubChanges(Changes):
    pass


class Keeping(Refusals, unittest.TestCase):
    def checked(self, table):
        paper = keeps_size(table)
        self.exactly(keeps_size(Table(table.rule, table.one, table.other, table.pairs[::-1])).parts, paper.parts)
        self.assertIs(shows_keeping(table, paper), True)
        self.assertIs(shows_keeping(table, Keeps()), type(paper) is Keeps)
        if type(paper) is Changes:
            self.assertTrue(is_thing(table.rule, table.one, paper.thing))
            self.assertNotEqual(size_of(paper.thing), size_of(tabling.turned(table.pairs, paper.thing)))
        for thing in things_of(table, 12):
            changed = size_of(thing) != size_of(tabling.turned(table.pairs, thing))
            self.assertFalse(changed and paper == Keeps())
            self.assertIs(shows_keeping(table, Changes(thing)), changed)
            self.assertIs(shows_keeping(table, Changes(listing.listed(thing))), changed)
        return type(paper)

    def test_tables_of_all_kinds(self):
        """Told otherwise, openings of one side and of both, put behind one another, backwards."""
        chosen = random.Random(1)
        seen = {Keeps: 0, Changes: 0}
        for table in some_tables(2):
            kind = self.checked(table)
            seen[kind] += 1
            self.assertIs(self.checked(told(table, 4, chosen)), kind)
            self.assertIs(self.checked(table.backwards()), kind)
            self.assertIs(self.checked(table.then(table.backwards())), Keeps)
            self.assertIs(self.checked(table.beside(table)), kind)
        self.assertGreater(min(seen.values()), 15)

    def test_holes_exchanged_keep(self):
        """Whatever holes are exchanged, in whatever patterns of as many knots."""
        chosen = random.Random(3)
        for rule in RULES:
            for store in STORES:
                pairs = tabling.told_otherwise(rule.counts, tabling.nothing(listing.boxes_alone(store.counts)), 5, chosen)
                found = []
                for knots in {listing.knots_of(pair[0]) for pair in pairs}:
                    found += tabling.mixed([pair for pair in pairs if listing.knots_of(pair[0]) == knots], chosen)
                table = Table(rule, store, store, found)
                self.assertIs(self.checked(table), Keeps)
                self.assertIs(self.checked(table.then(table)), Keeps)

    def test_those_of_chains(self):
        seen = {Keeps: 0, Changes: 0}
        for chain in some_chains():
            table = table_of(chain)
            kind = self.checked(table)
            seen[kind] += 1
            if chain.begin != chain.end:
                self.assertIs(kind, Changes)
        self.assertGreater(seen[Changes], 30)
        self.assertIs(self.checked(table_of(Chain(BINARY, X, [(1, 1), (1, 2), (-1, 2), (-1, 1)]))), Keeps)

    def test_some(self):
        for table, kind in ((FLIP, Keeps), (WHEEL, Keeps), (OPENED, Changes), (OPENED.backwards(), Changes),
                            (nothing_done(BINARY, Store([3, 1, 2])), Keeps), (OPENED.then(OPENED.backwards()), Keeps),
                            (FLIP.then(OPENED), Changes), (FLIP.beside(OPENED), Changes), (FLIP.beside(WHEEL), Keeps),
                            (Table(BINARY, Store([]), Store([]), []), Keeps)):
            self.assertIs(self.checked(table), kind)
        turned = Table(BINARY, Store([2]), Store([2]), [((0, 0), (0, 1), ()), ((0, 1), (0, 0), ())])
        self.assertIs(self.checked(turned), Keeps)
        both = Store([0, 1, 1])
        # Just one pair of the four changes a size, and another one changes it back.
        table = Table(BINARY, both, both, [((1, 0, LEAF), (2, 0, LEAF, LEAF), ()), ((1, 0, FORK), (1, 0, FORK), (0, 1)),
                                           ((2, 0, LEAF, LEAF), (1, 0, LEAF), ()), ((2, 0, LEAF, FORK), (2, 0, LEAF, FORK), (0, 1)),
                                           ((2, 0, FORK, ()), (2, 0, FORK, ()), (2, 0, 1))])
        self.assertIs(self.checked(table), Changes)
        self.assertIs(self.checked(table.then(table)), Keeps)

    def test_refused(self):
        for value in ANYTHING + (OPENED.pairs, X, Chain(BINARY, X, []), Table):
            self.refuses(BadTable, ("table",), keeps_size, value)
            for last in (Keeps(), Changes((1, 0, LEAF)), None):
                self.refuses(BadTable, ("table",), shows_keeping, value, last)
        self.assertEqual(keeps_size(table=FLIP), Keeps())

    def test_papers(self):
        self.assertEqual((Keeps().word, Keeps().parts, bool(Keeps())), ("keeps", (), True))
        self.assertNotIsInstance(Keeps(), Denial)
        for value in ANYTHING + ([1, [2]],):
            paper = Changes(value)
            self.assertEqual((paper.word, bool(paper)), ("changes", False))
            self.assertEqual(Changes(thing=value), paper)
            self.exactly(paper.parts, (paper.thing,))
        self.assertIsInstance(Changes(1), Denial)
        with self.assertRaises(TypeError):
            Keeps(1)


class Shown(Refusals, unittest.TestCase):
    def test_bent_things(self):
        self.assertIs(shows_keeping(OPENED, Changes((1, 0, (2, 0, LEAF, LEAF)))), True)
        self.assertIs(shows_keeping(OPENED, Changes([1, 0, [0, 0]])), True)
        for value in ((1, 1, LEAF), (1, 0, (0, 1)), (1, 0, ()), (1, 0), (1, 0, LEAF, LEAF), (True, 0, LEAF), (1, False, LEAF),
                      (0, 0), (2, 0, LEAF, LEAF), (1, 0, FORK), (1, 0, (2, 0, LEAF)), [LEAF], (1, 0, None)):
            self.assertIs(shows_keeping(OPENED, Changes(value)), False)
        self.assertIs(shows_keeping(OPENED.backwards(), Changes((0, 0))), True)
        self.assertIs(shows_keeping(FLIP, Changes((1, 0, LEAF))), False)

    def test_any_value(self):
        thing = (1, 0, LEAF)
        for value in ANYTHING + (Keeps, "keeps", Paper("keeps"), Denial("changes", thing), thing, SubKeeps(),
                                 SubChanges(thing), Paper("changes", thing)):
            for table in (OPENED, FLIP):
                self.assertIs(shows_keeping(table, value), False)
            self.assertIs(shows_keeping(OPENED, Changes(value)), value == thing)
            self.assertIs(shows_keeping(FLIP, Changes(value)), False)
        self.assertIs(shows_keeping(value=Keeps(), table=FLIP), True)
        rule = Rule([2, 0, 1])
        self.assertIs(shows_keeping(nothing_done(rule, TWO), Keeps()), True)

    def test_great_things(self):
        deep = LEAF
        for _ in range(55):
            deep = [2, 0, deep, [0, 0]]
        self.assertIs(shows_keeping(OPENED, Changes([1, 0, deep])), True)
        self.assertIs(shows_keeping(WHEEL, Changes([1, 0, deep])), False)


if __name__ == "__main__":
    unittest.main()
