import itertools
import random
import unittest

from helpers import ANYTHING, Refusals
from reckoning import added, product
from sevenasone.alike import Divided, Finite, Undivided, alike
from sevenasone.check_alike import shows_alike
from sevenasone.chains import Chain
from sevenasone.errors import BadRule, BadStore
from sevenasone.papers import Denial, Paper
from sevenasone.rules import Rule
from sevenasone.stores import Store, power_of
from sevenasone.steps import can_step, step_store

RULES = [Rule(counts) for counts in ([1, 0, 1], [1, 1, 1], [2, 1, 2], [2, 0, 0, 1], [1, 3, 0, 2], [3, 3, 3],
                                     [1, 2, 2, 1, 1], [1, 0, 0, 0, 0, 3])]
BINARY, X = RULES[0], Store([0, 1])
FINITE = [Store([]), Store([1]), Store([5]), Store([10 ** 30])]
ENDLESS = [Store(counts) for counts in ([0, 1], [1, 0, 1], [2, 3], [0, 0, 0, 1], [7, 1, 0, 0, 2], [0] * 40 + [1],
                                        [10 ** 5000, 1])]
SMALL = [row for size in range(4) for row in itertools.product((-2, -1, 0, 1), repeat=size) if not row or row[-1]]


def two_apart(rule, quotient, more=()):
    """Two endless stores that differ by p - x times the quotient, and more counts."""
    change = added(product(rule.stepped, quotient), more)
    one = tuple(max(0, number) for number in change) + (0, 1)
    return Store(added(one, (1, 2))), Store(added(added(one, (1, 2)), change, -1))


def near(rule, store, length):
    """The stores to which chains of so many steps at most lead."""
    found, last = [store], [store]
    for _ in range(length):
        last = [step_store(rule, one, (way, k)) for one in last for way in (1, -1) for k in range(1, 6)
                if can_step(rule, one, (way, k))]
        last = [one for place, one in enumerate(last) if one not in last[:place] and one not in found]
        found += last
    return found


class Alike(Refusals, unittest.TestCase):
    def right(self, rule, one, other, expected):
        paper = alike(rule, one, other)
        self.assertEqual(paper, expected)
        self.assertIs(type(paper), type(expected))
        self.exactly(paper.parts, expected.parts)
        self.assertIs(shows_alike(rule, one, other, paper), True)

    def test_endless_ones_that_differ_by_so_many_times(self):
        for rule in RULES:
            for quotient in SMALL + [(0, 0, 3, -5, 10 ** 40), (0,) * 20 + (7,)]:
                one, other = two_apart(rule, quotient)
                self.right(rule, one, other, Divided(quotient))
                self.right(rule, other, one, Divided(tuple(-number for number in quotient)))

    def test_endless_ones_with_something_left(self):
        for rule in RULES:
            for quotient in SMALL[::3]:
                for more in ((1,), (-1,), (0, 1), (3, -1), (10 ** 40,)):
                    one, other = two_apart(rule, quotient, more)
                    if len(more) <= rule.top:
                        self.right(rule, one, other, Undivided(more))
                        self.right(rule, other, one, Undivided(tuple(-number for number in more)))

    def test_what_is_left_is_longer_where_the_top_number_is_no_multiple(self):
        for counts, one, other, left in (
                ([2, 1, 2], (1, 1, 1), (0, 1), (1, 0, 1)), ([2, 1, 2], (2, 1, 2), (0, 1), None),
                ([1, 3, 0, 2], (0, 1, 0, 0, 0, 3), (0, 1), (0, 0, 0, 0, 0, 3)),
                ([1, 3, 0, 2], (0, 1, 0, 0, 0, 2), (0, 1), (1, 2, -1)),
                ([1, 3, 0, 2], (0, 1, 0, 0, 3), (0, 1), (0, 0, 0, 0, 3)),
                ([3, 3, 3], (0, 1, 0, 6, 4), (0, 1), (0, 0, 0, 6, 4))):
            expected = Divided((1,)) if left is None else Undivided(left)
            self.right(Rule(counts), Store(one), Store(other), expected)

    def test_stores_that_chains_lead_to(self):
        for rule in RULES[:6]:
            for begin in ([0, 1], [1, 0, 1], [1, 2, 1], list(rule.counts)):
                for store in near(rule, Store(begin), 3):
                    self.assertEqual(alike(rule, Store(begin), store).word, "divided")
                    self.assertTrue(alike(rule, store, Store(begin)))

    def test_equal_ones(self):
        for rule in RULES:
            for store in FINITE + ENDLESS:
                self.right(rule, store, Store(list(store.counts)), Divided(()))

    def test_finite_ones(self):
        for rule in RULES:
            for one in FINITE:
                for other in FINITE:
                    if one != other:
                        self.right(rule, one, other, Finite("both"))
                for other in ENDLESS:
                    self.right(rule, one, other, Finite("one"))
                    self.right(rule, other, one, Finite("other"))
        # As counts they differ by p - x; but one of them is finite.
        self.right(BINARY, Store([1, 0, 1]), X, Divided((1,)))
        self.right(Rule([1, 1, 1]), Store([1]), Store([2, 0, 1]), Finite("one"))
        self.right(Rule([1, 1, 1]), Store([1, 0, 1]), Store([]), Finite("other"))

    def test_powers_of_x(self):
        self.right(BINARY, power_of(7), X, Divided((0, -1, -1, 0, 1, 1)))
        for number in range(2, 7):
            self.assertEqual(alike(BINARY, power_of(number), X).word, "undivided")
        self.right(BINARY, power_of(2), X, Undivided((-1,)))

    def test_one_store_put_to_both_and_multiplied_with_both(self):
        chosen = random.Random(3)
        for rule in RULES:
            for _ in range(30):
                quotient = chosen.choice(SMALL)
                one, other = two_apart(rule, quotient, chosen.choice(((), (1,), (0, 2))))
                paper = alike(rule, one, other)
                for counts in ([], [3], [0, 1], [1, 0, 2], [0, 2, 1]):
                    more = Store(counts)
                    self.assertEqual(alike(rule, one.plus(more), other.plus(more)), paper)
                    self.assertEqual(alike(rule, more.plus(one), other.plus(more)), paper)
                    both = alike(rule, one.times(more), other.times(more))
                    if paper:
                        self.right(rule, one.times(more), other.times(more), Divided(product(quotient, more.counts)))
                    self.assertTrue(both or not paper)

    def test_finite_ones_put_to_endless_ones(self):
        for one, other in (([1], [4]), ([], [3]), ([2], [8])):
            one, other = Store(one), Store(other)
            self.right(BINARY, one, other, Finite("both"))
            self.assertEqual(alike(BINARY, one.plus(X), other.plus(X)).word, "undivided")
        self.right(Rule([3, 1, 1]), Store([1, 1]), Store([4, 1, 1]), Divided((-1,)))

    def test_alike_to_alike_ones(self):
        for rule in RULES:
            for quotient in SMALL[::4]:
                one, other = two_apart(rule, quotient)
                for further in SMALL[1::4]:
                    big = Store(added(other.counts, (50, 50, 50, 50, 50, 50, 50, 50, 50)))
                    third = Store(added(big.counts, product(rule.stepped, further)))
                    start = Store(added(one.counts, (50, 50, 50, 50, 50, 50, 50, 50, 50)))
                    self.right(rule, start, third, Divided(added(quotient, further, -1)))

    def test_by_place_and_by_name(self):
        paper = alike(BINARY, power_of(7), X)
        self.assertEqual(alike(other=X, one=power_of(7), rule=BINARY), paper)
        self.assertEqual(alike(BINARY, power_of(7), other=X), paper)

    def test_refused_in_order(self):
        for value in ANYTHING + ((1, 0, 1), "0 1"):
            for work, more in ((alike, ()), (shows_alike, (None,)), (shows_alike, (Divided(()),))):
                self.refuses(BadRule, ("rule",), work, value, X, X, *more)
                self.refuses(BadRule, ("rule",), work, value, None, None, *more)
                self.refuses(BadStore, ("one",), work, BINARY, value, X, *more)
                self.refuses(BadStore, ("one",), work, BINARY, value, None, *more)
                self.refuses(BadStore, ("other",), work, BINARY, X, value, *more)

    def test_papers(self):
        for made, word, name, below in ((Divided, "divided", "quotient", Paper), (Finite, "finite", "which", Denial),
                                        (Undivided, "undivided", "left", Denial)):
            self.assertTrue(issubclass(made, below))
            self.assertEqual(issubclass(made, Denial), below is Denial)
            for value in ANYTHING + ("one", [1, [2]]):
                paper = made(value)
                self.assertEqual((paper.word, bool(paper)), (word, below is Paper))
                self.assertEqual(made(**{name: value}), paper)
                self.exactly(paper.parts, (getattr(paper, name),))
            self.exactly(made([1, [2]]).parts, ((1, (2,)),))
        self.assertNotEqual(Divided((1,)), Undivided((1,)))
        self.assertNotEqual(Divided((1,)), Paper("divided", (1,)))


def a_chain_between(rule, one, other):
    return any(store == other for store in near(rule, one, 4))


class Unlike(unittest.TestCase):
    def test_no_chain_leads_between_unlike_ones(self):
        """The denials are right: no store near the one is the other, nor does a chain leave out what is left."""
        for rule in RULES[:4]:
            stores = [Store(counts) for counts in ([0, 1], [1, 1], [0, 0, 1], [1, 0, 1], [2, 0, 1], [0, 2])]
            for one in stores:
                for other in stores:
                    if not alike(rule, one, other):
                        self.assertFalse(a_chain_between(rule, one, other))

    def test_finite_ones_have_no_step(self):
        self.assertEqual(near(BINARY, Store([5]), 3), [Store([5])])
        self.assertEqual(Chain(BINARY, Store([5]), []).end, Store([5]))


if __name__ == "__main__":
    unittest.main()
