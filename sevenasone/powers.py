"""Powers of X: which of them are alike."""

from math import lcm

from sevenasone.checks import is_within
from sevenasone.counts import divided
from sevenasone.errors import BadNumber
from sevenasone.papers import Denial, Paper
from sevenasone.rules import check_rule

ROUND_COUNTS = (
    (2, (1, 1)),
    (3, (1, 1, 1)),
    (4, (1, 0, 1)),
    (5, (1, 1, 1, 1, 1)),
    (6, (1, -1, 1)),
    (8, (1, 0, 0, 0, 1)),
    (10, (1, -1, 1, -1, 1)),
    (12, (1, 0, -1, 0, 1)),
)


class Round(Paper):
    """After how many trees the powers come round, and the numbers whose round counts p - x is the product of."""

    def __init__(self, number, factors):
        super().__init__("round", number, factors)
        self.number, self.factors = self.parts


class Never(Denial):
    """Why no two unlike powers are alike: top, twice or else; and what shows it."""

    def __init__(self, why, what):
        super().__init__("never", why, what)
        self.why, self.what = self.parts


def times_divided(counts, by):
    """How often the counts are divided by others, one time behind another; others are not 1 or -1 alone."""
    often = 0
    quotient, left = divided(counts, by)
    while len(left) == 0:
        often += 1
        quotient, left = divided(quotient, by)
    return often


def numbers_dividing(rule, least):
    """The numbers, ascending, whose round counts divide p - x so often at least."""
    return [number for number, counts in ROUND_COUNTS if times_divided(rule.stepped, counts) >= least]


def left_of(rule):
    """What p - x is after it has been divided once by each round counts that divide it."""
    left = rule.stepped
    for _, counts in ROUND_COUNTS:
        quotient, more = divided(left, counts)
        if len(more) == 0:
            left = quotient
    return left


def powers(rule):
    """When the powers of X come round, or why they never do."""
    check_rule(rule)
    if rule.counts[-1] != 1:
        return Never("top", rule.counts[-1])
    twice = numbers_dividing(rule, 2)
    if len(twice) > 0:
        return Never("twice", twice[0])
    left = left_of(rule)
    if left != (1,):
        return Never("else", left)
    factors = numbers_dividing(rule, 1)
    number = 1
    for factor in factors:
        number = lcm(number, factor)
    return Round(number, factors)


def alike_powers(rule, one, other):
    """Whether the powers of X with so many trees are alike."""
    check_rule(rule)
    if not is_within(one, 1, None):
        raise BadNumber("one")
    if not is_within(other, 1, None):
        raise BadNumber("other")
    paper = powers(rule)
    return one == other or (type(paper) is Round and (one - other) % paper.number == 0)
