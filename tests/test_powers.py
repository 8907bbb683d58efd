import itertools
import unittest
from math import lcm

from helpers import ANYTHING, Refusals
from reckoning import left_by, product, stepped
from sevenasone.alike import alike
from sevenasone.check_alike import shows_powers
from sevenasone.errors import BadNumber, BadRule
from sevenasone.papers import Denial, Paper
from sevenasone.powers import Never, Round, alike_powers, powers
from sevenasone.rules import Rule
from sevenasone.stores import power_of

ROUND = {2: (1, 1), 3: (1, 1, 1), 4: (1, 0, 1), 5: (1, 1, 1, 1, 1), 6: (1, -1, 1), 8: (1, 0, 0, 0, 1),
         10: (1, -1, 1, -1, 1), 12: (1, 0, -1, 0, 1)}
SIXTEEN = {
    (1, 0, 1): (6, (6,)), (1, 1, 1): (4, (4,)), (1, 2, 1): (3, (3,)),
    (1, 1, 0, 1): (6, (2, 6)), (1, 2, 1, 1): (4, (2, 4)), (1, 3, 2, 1): (6, (2, 3)),
    (1, 1, 0, 0, 1): (8, (8,)), (1, 1, 1, 0, 1): (6, (3, 6)), (1, 2, 1, 1, 1): (5, (5,)), (1, 2, 2, 1, 1): (12, (3, 4)),
    (1, 1, 0, 0, 0, 1): (10, (2, 10)), (1, 1, 1, 1, 0, 1): (12, (2, 4, 6)), (1, 2, 0, 0, 1, 1): (8, (2, 8)),
    (1, 2, 1, 1, 1, 1): (6, (2, 3, 6)), (1, 3, 2, 2, 2, 1): (10, (2, 5)), (1, 3, 3, 3, 2, 1): (12, (2, 3, 4))}
ALL_COUNTS = [counts for size in (3, 4, 5, 6) for counts in itertools.product(range(4), repeat=size)
              if counts[0] and counts[-1]]
BINARY = Rule([1, 0, 1])


def comes_round(counts):
    """The least number of trees after which the powers come round, by dividing powers of x; None for none to 60."""
    by = stepped(counts)
    return next((number for number in range(1, 61) if left_by(number, by) == (1,)), None)


def divides(by, counts):
    """The quotient, if the counts are a product of others, whose top number is 1, and any counts; else None."""
    row, found = list(counts), []
    while len(row) >= len(by):
        found.insert(0, row[-1])
        for place, number in enumerate(by):
            row[len(row) - len(by) + place] -= found[0] * number
        row.pop()
    return None if any(row) else tuple(found)


def reasons(counts):
    """What a right Never of a rule with these counts may say, by the words of the document."""
    found = [("top", counts[-1])] if counts[-1] != 1 else []
    rest = stepped(counts)
    for number, by in ROUND.items():
        if divides(product(by, by), stepped(counts)) is not None:
            found.append(("twice", number))
        if divides(by, stepped(counts)) is not None:
            rest = divides(by, rest)
    return found + ([("else", rest)] if rest != (1,) else [])


class Powers(Refusals, unittest.TestCase):
    def test_the_sixteen_rules_that_come_round(self):
        self.assertEqual({counts: powers(Rule(counts)).parts for counts in ALL_COUNTS if powers(Rule(counts))}, SIXTEEN)
        for counts, (number, factors) in SIXTEEN.items():
            paper = powers(Rule(counts))
            self.assertIs(type(paper), Round)
            self.assertEqual(stepped(counts), product(*[ROUND[factor] for factor in factors]))
            self.assertEqual(lcm(*factors), number)
            self.exactly((paper.word, paper.parts, paper.number, paper.factors),
                         ("round", (number, factors), number, factors))

    def test_by_dividing_powers_of_x(self):
        for counts in ALL_COUNTS:
            if counts[-1] == 1:
                paper = powers(Rule(counts))
                self.assertEqual(comes_round(counts), paper.number if paper else None)

    def test_why_they_never_come_round_in_order(self):
        told = {"top": 0, "twice": 0, "else": 0}
        for counts in ALL_COUNTS:
            paper = powers(Rule(counts))
            if not paper:
                self.assertIs(type(paper), Never)
                self.exactly((paper.word, paper.why, paper.what), ("never",) + reasons(counts)[0])
                self.exactly(paper.parts, reasons(counts)[0])
                told[paper.why] += 1
        self.assertGreater(min(told.values()), 3)

    def test_some_that_never_do(self):
        for counts, parts in (([1, 0, 2], ("top", 2)), ([1, 3, 1], ("twice", 2)), ([2, 0, 0, 1], ("else", (2, -1, 0, 1))),
                              ([2, 1, 2], ("top", 2)), ([1, 1, 2, 0, 1], ("twice", 4)), ([2, 1, 1], ("else", (2, 0, 1))),
                              ([2, 3, 1, 1], ("else", (2, 0, 1))), ([2, 3, 0, 0, 0, 3], ("top", 3)),
                              ([3, 3, 3, 3, 3, 3], ("top", 3)), ([2, 1, 3, 0, 1], ("else", (2, 0, 1)))):
            self.exactly(powers(Rule(counts)).parts, parts)

    def test_alike_powers_by_alike(self):
        for counts in list(SIXTEEN) + [(1, 0, 2), (1, 3, 1), (2, 0, 0, 1), (2, 1, 2), (1, 0, 0, 0, 0, 1)]:
            rule = Rule(counts)
            for one in range(1, 15):
                for other in range(1, 28, 1 if one < 3 else 5):
                    expected = bool(alike(rule, power_of(one), power_of(other)))
                    self.assertIs(alike_powers(rule, one, other), expected)
                    self.assertIs(alike_powers(rule, other, one), expected)

    def test_alike_powers_of_any_size(self):
        many = 10 ** 5000
        for counts, (number, _) in SIXTEEN.items():
            rule = Rule(counts)
            self.assertIs(alike_powers(rule, many, many + 7 * number), True)
            self.assertIs(alike_powers(rule, many * number + 1, 1), True)
            for more in range(1, number):
                self.assertIs(alike_powers(rule, many, many + more), False)
                self.assertIs(alike_powers(rule, many + number * many + more, many), False)
        for counts in ((1, 0, 2), (1, 3, 1), (2, 0, 0, 1)):
            self.assertIs(alike_powers(Rule(counts), many, many), True)
            for more in (1, 6, 12, 60, 10 ** 30):
                self.assertIs(alike_powers(Rule(counts), many, many + more), False)

    def test_refused_in_order(self):
        for value in ANYTHING + ((1, 0, 1), "1 0 1"):
            self.refuses(BadRule, ("rule",), powers, value)
            self.refuses(BadRule, ("rule",), shows_powers, value, None)
            self.refuses(BadRule, ("rule",), shows_powers, value, Round(6, [6]))
            self.refuses(BadRule, ("rule",), alike_powers, value, 1, 1)
            self.refuses(BadRule, ("rule",), alike_powers, value, 0, 0)
        for value in ANYTHING + (-7, "1", (1,)):
            if type(value) is not int or value < 1:
                self.refuses(BadNumber, ("one",), alike_powers, BINARY, value, 1)
                self.refuses(BadNumber, ("one",), alike_powers, BINARY, value, 0)
                self.refuses(BadNumber, ("other",), alike_powers, BINARY, 1, value)
                self.refuses(BadNumber, ("other",), alike_powers, Rule([1, 0, 2]), 1, value)

    def test_by_place_and_by_name(self):
        self.assertIs(alike_powers(other=7, one=1, rule=BINARY), True)
        self.assertEqual(powers(rule=BINARY), Round(factors=[6], number=6))

    def test_papers(self):
        for made, word, names, below in ((Round, "round", ("number", "factors"), Paper),
                                         (Never, "never", ("why", "what"), Denial)):
            self.assertTrue(issubclass(made, below))
            self.assertEqual(issubclass(made, Denial), below is Denial)
            for first in ANYTHING + ([1, [2]],):
                paper = made(first, [[first]])
                self.assertEqual((paper.word, bool(paper)), (word, below is Paper))
                self.assertEqual(made(**dict(zip(names, (first, [[first]])))), paper)
                self.exactly(paper.parts, tuple(getattr(paper, name) for name in names))
        self.exactly(Never("else", [1, [2]]).parts, ("else", (1, (2,))))


class Shown(unittest.TestCase):
    def test_right_and_bent_rounds(self):
        for counts, (number, factors) in SIXTEEN.items():
            rule = Rule(counts)
            self.assertIs(shows_powers(rule, Round(number, list(factors))), True)
            for value in (Round(number * 2, factors), Round(number - 1, factors), Round(-number, factors),
                          Round(0, factors), Round(number, factors[::-1] + (2,)), Round(number, factors + factors),
                          Round(number, factors[:-1]), Round(number, (1,) + factors), Round(number, ()),
                          Round(number, [factors]), Round([number], factors), Round(factors, number),
                          Round(number, None), Round(None, factors), Round(str(number), factors),
                          Round(number, [str(factor) for factor in factors]), Round(float(number), factors),
                          Round(number, [float(factor) for factor in factors]), Round(number, factors + (7,)),
                          Round(number, factors + (0,)), Round(True, factors), Round(number, (True,)),
                          Paper("round", number, factors), Denial("round", number, factors), Never(number, factors),
                          (number, factors), Never("else", (1,)), Never("top", 1), Never("top", True)):
                self.assertIs(shows_powers(rule, value), False)
            if len(factors) > 1:
                self.assertIs(shows_powers(rule, Round(number, factors[::-1])), False)
            for other, parts in SIXTEEN.items():
                self.assertIs(shows_powers(rule, Round(*parts)), other == counts)

    def test_every_reason_that_holds_and_no_other(self):
        whats = list(range(-3, 14)) + [True, None, "2", 2.0, (), (1,), (2,), [1, 1], (1, 1, 0), (True,), (2, -1, 0, 1)]
        for counts in ALL_COUNTS[::7] + [(1, 3, 1), (2, 1, 2), (1, 1, 2, 0, 1), (1, 0, 2), (2, 3, 2), (3, 3, 3, 3)]:
            rule, right = Rule(counts), reasons(counts)
            for why, what in right:
                self.assertIs(shows_powers(rule, Never(why, what)), True)
                if why == "else":
                    self.assertIs(shows_powers(rule, Never(why, list(what))), True)
                    self.assertIs(shows_powers(rule, Never(why, what + (0,))), False)
                    self.assertIs(shows_powers(rule, Never(why, tuple(map(float, what)))), False)
            for why in ("top", "twice", "else", "Top", "", None, True, 0, ("top",), b"top"):
                for what in whats:
                    given = tuple(what) if type(what) is list else what
                    expected = any(why == one and type(why) is str and given == other and repr(given) == repr(other)
                                   for one, other in right)
                    self.assertIs(shows_powers(rule, Never(why, what)), expected, (counts, why, what))
            self.assertIs(shows_powers(rule, powers(rule)), True)

    def test_twice_and_else_where_the_top_number_is_not_one(self):
        for counts, what in (((2, 3, 2), (2,)), ((2, 1, 2), (2,)), ((1, 0, 2), (1, -1, 2)), ((3, 3, 2, 2), (3, 2, 2, 2)),
                             ((2, 3, 2, 2), (2,))):
            self.assertIs(shows_powers(Rule(counts), Never("else", what)), True)
            self.assertIs(shows_powers(Rule(counts), Never("top", 2)), True)
            self.assertEqual(powers(Rule(counts)), Never("top", 2))
        for counts in ((1, 2, 1, 3, 2), (2, 3, 0, 2, 2), (1, 3, 0, 0, 3, 2)):
            numbers = [number for number in range(-2, 14) if shows_powers(Rule(counts), Never("twice", number))]
            self.assertEqual(numbers, [what for why, what in reasons(counts) if why == "twice"])
            self.assertEqual(len(numbers), 1)
        self.assertIs(shows_powers(Rule([2, 3, 2]), Never("else", [2])), True)
        self.assertIs(shows_powers(Rule([2, 1, 2]), Never("else", [2])), True)
        self.assertIs(shows_powers(Rule([2, 1, 2]), Never("else", [1])), False)
        self.assertIs(shows_powers(Rule([3, 3, 3]), Never("else", [3, 2, 3])), True)

    def test_any_value(self):
        for value in ANYTHING + (Round, Never, "round", Paper("never", "top", 2), Denial("never", "top", 2)):
            self.assertIs(shows_powers(Rule([1, 0, 2]), value), False)
            self.assertIs(shows_powers(BINARY, value), False)
            for other in ANYTHING:
                self.assertIs(shows_powers(BINARY, Round(value, other)), False)
                self.assertIs(shows_powers(BINARY, Never(value, other)), False)
        self.assertIs(shows_powers(value=Round(6, [6]), rule=BINARY), True)


if __name__ == "__main__":
    unittest.main()
