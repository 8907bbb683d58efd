"""Checks the papers of alike stores and of powers."""

from sevenasone.alike import Divided, Finite, Undivided, check_both, finite_of
from sevenasone.checks import is_integer, is_numbers
from sevenasone.counts import divided, is_counts, less, times
from sevenasone.powers import Never, Round, left_of, numbers_dividing, powers
from sevenasone.rules import check_rule


def _is_text(value, text):
    return isinstance(value, str) and value == text


def shows_alike(rule, one, other, value):
    """Whether the value is a right Divided, Finite or Undivided of the two stores."""
    check_both(rule, one, other)
    change = less(one.counts, other.counts)
    which = finite_of(one, other)
    if type(value) is Divided:
        if one != other and which is not None:
            return False
        return is_counts(value.quotient) and times(value.quotient, rule.stepped) == change
    if type(value) is Finite:
        return one != other and which is not None and _is_text(value.which, which)
    if type(value) is Undivided:
        if which is not None or not is_counts(value.left) or len(value.left) == 0:
            return False
        return value.left == divided(change, rule.stepped)[1]
    return False


def _holds(rule, why, what):
    """Whether the reason of a Never holds."""
    if _is_text(why, "top"):
        return is_integer(what) and what == rule.counts[-1] and what != 1
    if _is_text(why, "twice"):
        return is_integer(what) and what in numbers_dividing(rule, 2)
    if _is_text(why, "else"):
        return is_counts(what) and what == left_of(rule) and what != (1,)
    return False


def shows_powers(rule, value):
    """Whether the value is a right Round, or a Never of a reason that holds."""
    check_rule(rule)
    if type(value) is Round:
        # There is one right Round at most: the number and the factors follow from p - x.
        return is_integer(value.number) and is_numbers(value.factors) and value == powers(rule)
    if type(value) is Never:
        return _holds(rule, value.why, value.what)
    return False
