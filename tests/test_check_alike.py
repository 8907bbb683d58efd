import unittest

from helpers import ANYTHING
from reckoning import product
from sevenasone.alike import Divided, Finite, Undivided, alike
from sevenasone.check_alike import shows_alike
from sevenasone.papers import Denial, Paper
from sevenasone.powers import Never, Round
from sevenasone.rules import Rule
from sevenasone.stores import Store, power_of
from test_alike import BINARY, ENDLESS, FINITE, RULES, SMALL, X, two_apart


class SubDivided(Divided):
    pass


def bent(counts):
    """Values that look like the counts, and are others, or none."""
    for place in range(len(counts)):
        for new in (counts[place] + 1, counts[place] - 1, -counts[place] - 1, True, None, str(counts[place]), (1,), []):
            yield counts[:place] + (new,) + counts[place + 1:]
        if isinstance(counts[place], int):
            yield counts[:place] + (float(min(counts[place], 10 ** 9)),) + counts[place + 1:]
        yield counts[:place] + counts[place + 1:] + (5,)
    yield counts + (0,)
    yield counts + (1,)
    yield (1,) + counts
    yield (counts,)
    yield (counts, counts)
    yield " ".join(map(str, counts))


class Endless(unittest.TestCase):
    def test_right_and_bent_quotients(self):
        for rule in RULES:
            for quotient in SMALL[::3] + [(0, 0, 3, -5, 10 ** 40)]:
                one, other = two_apart(rule, quotient)
                self.assertIs(shows_alike(rule, one, other, Divided(quotient)), True)
                self.assertIs(shows_alike(rule, one, other, Divided(list(quotient))), True)
                if quotient:
                    self.assertIs(shows_alike(rule, other, one, Divided(quotient)), False)
                for value in bent(quotient):
                    self.assertIs(shows_alike(rule, one, other, Divided(value)), False, value)
                for value in (Undivided(quotient), Undivided(()), Undivided((1,)), Finite("both"), Finite("one"),
                              Finite("other"), SubDivided(quotient), Paper("divided", quotient),
                              Denial("divided", quotient), quotient, Round(quotient, quotient), Never("top", quotient)):
                    self.assertIs(shows_alike(rule, one, other, value), False)

    def test_right_and_bent_lefts(self):
        for rule in RULES:
            for quotient in SMALL[::5]:
                for more in ((1,), (-2,), (0, 1), (3, -1)):
                    one, other = two_apart(rule, quotient, more)
                    left = alike(rule, one, other).left
                    self.assertIs(shows_alike(rule, one, other, Undivided(left)), True)
                    self.assertIs(shows_alike(rule, one, other, Undivided(list(left))), True)
                    self.assertIs(shows_alike(rule, other, one, Undivided(left)), False)
                    for value in bent(left):
                        self.assertIs(shows_alike(rule, one, other, Undivided(value)), False, value)
                    for value in (Divided(left), Divided(quotient), Divided(()), Undivided(()), Finite("both"),
                                  Finite("one"), Denial("undivided", left), Paper("undivided", left)):
                        self.assertIs(shows_alike(rule, one, other, value), False)

    def test_what_is_left_on_the_way_is_not_what_is_left(self):
        """It is not enough that counts differ by p - x times some counts from the difference of the stores."""
        change = (-1, 0, 1)
        one, other = Store([0, 1, 1]), Store([1, 1])
        self.assertEqual(alike(BINARY, one, other).left, (-2, 1))
        self.assertIs(shows_alike(BINARY, one, other, Undivided(change)), False)
        self.assertIs(shows_alike(BINARY, one, other, Undivided((-2, 1))), True)

    def test_equal_ones(self):
        for rule in RULES:
            for store in FINITE + ENDLESS:
                self.assertIs(shows_alike(rule, store, store, Divided([])), True)
                for value in (Divided((1,)), Divided((0,)), Divided(None), Undivided(()), Undivided((1,)), Finite("both"),
                              Finite("one"), Finite("other"), Finite(None), Finite(())):
                    self.assertIs(shows_alike(rule, store, store, value), False)


class WithFiniteOnes(unittest.TestCase):
    def test_which_is_finite(self):
        for rule in RULES[:3]:
            for one in FINITE + ENDLESS[:3]:
                for other in FINITE + ENDLESS[:3]:
                    expected = {(False, False): "both", (False, True): "one", (True, False): "other"}.get(
                        (one.is_endless, other.is_endless))
                    for which in ("one", "other", "both", "One", "", "none") + ANYTHING:
                        right = one != other and isinstance(which, str) and which == expected
                        self.assertIs(shows_alike(rule, one, other, Finite(which)), right)
                        self.assertIs(shows_alike(rule, one, other, Denial("finite", which)), False)

    def test_neither_quotient_nor_left_for_unlike_ones(self):
        rule = Rule([3, 1, 1])
        for one, other, quotient in ((Store([1, 0, 1]), X, (1,)), (Store([1]), Store([4, 0, 1]), (-1,)),
                                     (Store([3, 0, 1]), Store([]), (1,)), (Store([4]), Store([1]), (3,))):
            for value in (Divided(quotient), Undivided((3,)), Undivided((-3,)), Undivided(())):
                expected = one.is_endless and other.is_endless and value == Divided(quotient)
                for made in (rule, BINARY):
                    right = bool(expected and product(quotient, made.stepped) == (1, -1, 1))
                    self.assertIs(shows_alike(made, one, other, value), right)
        self.assertIs(shows_alike(BINARY, Store([1]), Store([1]), Divided([])), True)
        self.assertIs(shows_alike(BINARY, Store([1]), Store([2]), Divided([])), False)


class AnyValue(unittest.TestCase):
    def test_any_value(self):
        for value in ANYTHING + (Divided, "divided", "one"):
            for one, other in ((X, X), (X, power_of(7)), (X, power_of(2)), (X, Store([1])), (Store([1]), Store([2]))):
                self.assertIs(shows_alike(BINARY, one, other, value), False)
                expected = one == other and isinstance(value, (list, tuple)) and len(value) == 0
                self.assertIs(shows_alike(BINARY, one, other, Divided(value)), expected)
                self.assertIs(shows_alike(BINARY, one, other, Undivided(value)), False)
        self.assertIs(shows_alike(value=Divided([]), other=X, one=X, rule=BINARY), True)
        deep = [1]
        for _ in range(58):
            deep = [deep]
        for made in (Divided, Undivided, Finite):
            self.assertIs(shows_alike(BINARY, X, power_of(7), made(deep)), False)
            self.assertIs(shows_alike(BINARY, X, power_of(7), made("1" * 100000)), False)
        self.assertIs(shows_alike(BINARY, X, power_of(7), Divided([0] * 50000 + [1])), False)


if __name__ == "__main__":
    unittest.main()
