"""Checks the papers of chains."""

from sevenasone.chains import Chain, Led
from sevenasone.errors import BadChain, NoStep, TooMany
from sevenasone.rules import check_rule
from sevenasone.stores import check_store


def shows_led(rule, one, other, value):
    """Whether the value is a Led of steps that make a Chain from one to other."""
    check_rule(rule)
    check_store(one, "one")
    check_store(other, "other")
    if type(value) is not Led:
        return False
    try:
        chain = Chain(rule, one, value.steps)
    except (BadChain, NoStep, TooMany):
        return False
    return chain.end == other
