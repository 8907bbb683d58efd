import unittest

from helpers import ANYTHING, Refusals
from sevenasone.alike import Divided
from sevenasone.chains import Chain, Led
from sevenasone.check_chains import shows_led
from sevenasone.papers import Denial, Paper
from sevenasone.rules import Rule
from sevenasone.stores import Store, power_of
from test_chains import BINARY, RULES, X, some_chains
from test_steps import NO_STEPS


class Sub(Led):
    pass


def bent(steps):
    """The steps with one put in, left out or turned about, and two of them exchanged."""
    for place in range(len(steps) + 1):
        for new in ((1, 1), (-1, 1), (1, 2), (-1, 2), (1, 40), (-1, 10 ** 30)):
            yield steps[:place] + (new,) + steps[place:]
        if place < len(steps):
            way, k = steps[place]
            yield steps[:place] + steps[place + 1:]
            yield steps[:place] + ((-way, k),) + steps[place + 1:]
            yield steps[:place] + ((way, k + 1),) + steps[place + 1:]
            yield steps[:place] + steps[place + 1:place + 2] + ((way, k),) + steps[place + 2:]


def leads(rule, one, other, steps):
    """Whether the steps lead from one to other, by the counts of the stores alone."""
    counts = list(one.counts) + [0] * 100
    for way, k in steps:
        if k > 41 or (way == 1 and counts[k] == 0):
            return False
        if way == -1 and any(counts[k - 1 + m] < many for m, many in enumerate(rule.counts)):
            return False
        counts[k] -= way
        for m, many in enumerate(rule.counts):
            counts[k - 1 + m] += way * many
        if any(counts[41:]):
            return False
    return counts[:len(other.counts)] == list(other.counts) and not any(counts[len(other.counts):])


class Shown(Refusals, unittest.TestCase):
    def test_right_ones(self):
        for chain in some_chains():
            for steps in (chain.steps, [list(step) for step in chain.steps], list(chain.steps)):
                self.assertIs(shows_led(chain.rule, chain.begin, chain.end, Led(steps)), True)
            back = chain.backwards()
            self.assertIs(shows_led(chain.rule, chain.end, chain.begin, Led(steps=back.steps)), True)

    def test_bent_ones(self):
        right = wrong = 0
        for chain in list(some_chains())[::2]:
            for steps in bent(chain.steps):
                expected = leads(chain.rule, chain.begin, chain.end, steps)
                self.assertIs(shows_led(chain.rule, chain.begin, chain.end, Led(steps)), expected)
                right += expected
                wrong += not expected
        self.assertGreater(min(right, wrong), 10)

    def test_other_stores(self):
        for chain in some_chains():
            for one, other in ((chain.end, chain.begin), (chain.begin, chain.begin), (chain.end, chain.end),
                               (chain.begin, chain.end.plus(Store([1]))), (Store([]), chain.end), (chain.begin, X)):
                expected = leads(chain.rule, one, other, chain.steps)
                self.assertIs(shows_led(chain.rule, one, other, Led(chain.steps)), expected)

    def test_no_step(self):
        for rule in RULES:
            for store in (Store([]), Store([5]), X, Store([10 ** 5000, 1])):
                for none in ((), []):
                    self.assertIs(shows_led(rule, store, store, Led(none)), True)
                    self.assertIs(shows_led(rule, store, Store([3, 3]), Led(none)), False)

    def test_any_parts(self):
        for value in ANYTHING:
            expected = value in ([], ()) and isinstance(value, (list, tuple))
            self.assertIs(shows_led(BINARY, X, X, Led(value)), expected)
            self.assertIs(shows_led(BINARY, X, X, Led([value])), False)
            self.assertIs(shows_led(BINARY, X, X, Led([(1, 1), value, (-1, 1)])), False)
        for value in NO_STEPS:
            self.assertIs(shows_led(BINARY, X, X, Led([(1, 1), (-1, 1), value])), False)
        deep = (1, 1)
        for _ in range(57):
            deep = [deep]
        self.assertIs(shows_led(BINARY, X, X, Led(deep)), False)
        self.assertIs(shows_led(BINARY, X, X, Led("1" * 100000)), False)
        for steps in ([(1, True), (-1, 1)], [(1, 1), (-1, True)], [(True, 1), (-1, 1)], [(1.0, 1), (-1, 1)]):
            self.assertIs(shows_led(BINARY, X, X, Led(steps)), False)

    def test_what_is_no_led(self):
        steps = ((1, 1), (-1, 1))
        self.assertIs(shows_led(BINARY, X, X, Led(steps)), True)
        for value in ANYTHING + (steps, Paper("led", steps), Denial("led", steps), Divided(()), Divided(steps),
                                 Chain(BINARY, X, steps), Led, Sub(steps), "led"):
            self.assertIs(shows_led(BINARY, X, X, value), False)

    def test_a_thousand_steps_and_one_more(self):
        turns = [(1, 1), (-1, 1)] * 500
        self.assertIs(shows_led(BINARY, X, X, Led(turns)), True)
        self.assertIs(shows_led(BINARY, X, Store([1, 0, 1]), Led(turns + [(1, 1)])), False)
        self.assertIs(shows_led(BINARY, X, X, Led(turns * 2)), False)
        self.assertIs(shows_led(BINARY, X, X, Led(turns * 200)), False)
        three = Rule([1, 1, 1])
        self.assertIs(shows_led(three, X, Store([1000, 1, 1000]), Led([(1, 1)] * 1000)), True)
        self.assertIs(shows_led(three, X, Store([1001, 1, 1001]), Led([(1, 1)] * 1001)), False)

    def test_too_many_trees_on_the_way(self):
        up = [(1, k) for k in range(1, 40)]
        down = [(-1, k) for k in range(39, 0, -1)]
        self.assertIs(shows_led(BINARY, X, X, Led(up + down)), True)
        self.assertIs(shows_led(BINARY, X, X, Led(up + [(1, 40), (-1, 40)] + down)), False)
        self.assertIs(shows_led(BINARY, power_of(40), power_of(40), Led([(1, 40), (-1, 40)])), False)
        self.assertIs(shows_led(BINARY, power_of(40), power_of(40), Led([])), True)

    def test_refused_in_order(self):
        for value in ANYTHING + ((0, 1), "0 1"):
            for last in (None, Led([]), 7):
                self.refuses(("rule",), value, X, X, last)
                self.refuses(("rule",), value, None, None, last)
                self.refuses(("one",), BINARY, value, X, last)
                self.refuses(("one",), BINARY, value, None, last)
                self.refuses(("other",), BINARY, X, value, last)
        self.assertIs(shows_led(value=Led([]), other=X, one=X, rule=BINARY), True)

    def refuses(self, fields, *arguments):
        from sevenasone.errors import BadRule, BadStore
        Refusals.refuses(self, BadRule if fields == ("rule",) else BadStore, fields, shows_led, *arguments)


if __name__ == "__main__":
    unittest.main()
