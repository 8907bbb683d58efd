"""Alike stores: those that a chain leads from one to the other; told by what a division leaves."""

from sevenasone.counts import divided, less
from sevenasone.papers import Denial, Paper
from sevenasone.rules import check_rule
from sevenasone.stores import check_store


class Divided(Paper):
    """Counts that, times p - x, are the counts of the one store less those of the other."""

    def __init__(self, quotient):
        super().__init__("divided", quotient)
        self.quotient = self.parts[0]


class Finite(Denial):
    """Which of two unlike stores is finite: one, other, or both."""

    def __init__(self, which):
        super().__init__("finite", which)
        self.which = self.parts[0]


class Undivided(Denial):
    """What is left of the counts of the one store less those of the other, divided by p - x."""

    def __init__(self, left):
        super().__init__("undivided", left)
        self.left = self.parts[0]


def check_both(rule, one, other):
    """The errors of a rule and two stores."""
    check_rule(rule)
    check_store(one, "one")
    check_store(other, "other")


def finite_of(one, other):
    """Which of two stores is finite, as a Finite tells it; None if both are endless."""
    if one.is_endless:
        return None if other.is_endless else "other"
    return "one" if other.is_endless else "both"


def alike(rule, one, other):
    """Whether the stores are alike: a Divided, or the denial that shows why not."""
    check_both(rule, one, other)
    if one == other:
        return Divided(())
    which = finite_of(one, other)
    if which is not None:
        return Finite(which)
    quotient, left = divided(less(one.counts, other.counts), rule.stepped)
    if len(left) > 0:
        return Undivided(left)
    return Divided(quotient)
