"""Tables: programs that take a thing apart by the pattern that it fits, and put its trees together by another one."""

from sevenasone.errors import BadLot, BadTable, Misfit, TooMany
from sevenasone.lacking import is_full
from sevenasone.overlaps import overlapping_pairs
from sevenasone.pairs import pair_backwards, pair_through, rows_of_pair, told_pair, turned_by
from sevenasone.rows import layers_in
from sevenasone.rules import check_rule
from sevenasone.stores import boxes_with, check_store
from sevenasone.things import checked_thing

MOST_PAIRS = 400
MOST_LAYERS = 50


def check_most(number):
    """TooMany for more pairs than are let."""
    if number > MOST_PAIRS:
        raise TooMany("pairs", MOST_PAIRS)


def _rows_of_pairs(rule, one, other, pairs):
    """The pairs of a list, with rows; BadTable for what is no list of pairs of both stores."""
    if not isinstance(pairs, (list, tuple)):
        raise BadTable("pairs")
    rows = [rows_of_pair(rule, one, other, pair) for pair in pairs]
    if any([pair is None for pair in rows]):
        raise BadTable("pairs")
    return rows


def _layers_of(patterns):
    """The most layers of patterns, told by their rows; the box of a row is none."""
    return max([layers_in(row) - 1 for row in patterns], default=0)


def _shifted_pair(pair, one, other):
    """The pair with patterns of stores to which these have been added ahead."""
    left, right, order = pair
    return (_shifted_pattern(left, one), _shifted_pattern(right, other), order)


def _shifted_pattern(pattern, ahead):
    """A pattern of a store, in tuples, as one of this store and it added."""
    trees, index, *parts = pattern
    return (trees, index + boxes_with(ahead, trees), *parts)


def _turned(pairs, thing):
    """What the pairs make of a thing in tuples; it fits just one of their left patterns."""
    for pair in pairs:
        turned = turned_by(pair, thing)
        if turned is not None:
            return turned
    return None


class Table:
    """Pairs of patterns of two stores, which turn the things of the one into those of the other."""

    def __init__(self, rule, one, other, pairs):
        check_rule(rule)
        check_store(one, "one")
        check_store(other, "other")
        rows = _rows_of_pairs(rule, one, other, pairs)
        check_most(len(rows))
        # Rows compare as patterns do: so the pairs ascend by their left patterns, which are unlike in a full lot.
        rows = sorted(rows)
        lefts, rights = [pair[0] for pair in rows], [pair[1] for pair in rows]
        layers = _layers_of(lefts)
        if max(layers, _layers_of(rights)) > MOST_LAYERS:
            raise TooMany("layers", MOST_LAYERS)
        if not is_full(rule, one, lefts):
            raise BadLot("lefts")
        if not is_full(rule, other, rights):
            raise BadLot("rights")
        self.rule = rule
        self.one = one
        self.other = other
        self.pairs = tuple([told_pair(pair) for pair in rows])
        self.layers = layers
        self.rows = tuple(rows)
        self.rows_back = tuple([pair_backwards(pair) for pair in rows])

    def __eq__(self, other):
        if not isinstance(other, Table):
            return False
        return (self.rule == other.rule and self.one == other.one and self.other == other.other
                and self.pairs == other.pairs)

    def run(self, thing):
        """What a thing of one becomes."""
        return _turned(self.rows, checked_thing(self.rule, self.one, thing))

    def back(self, thing):
        """What becomes a thing of other."""
        return _turned(self.rows_back, checked_thing(self.rule, self.other, thing))

    def backwards(self):
        """The table from other to one that turns back."""
        return Table(self.rule, self.other, self.one, [told_pair(pair) for pair in self.rows_back])

    def then(self, other):
        """The table of both, the other one behind."""
        check_table(other, "other")
        if self.rule != other.rule:
            raise Misfit("rules")
        if self.other != other.one:
            raise Misfit("stores")
        meeting = overlapping_pairs([pair[1] for pair in self.rows], [pair[0] for pair in other.rows])
        check_most(len(meeting))
        pairs = [pair_through(self.rows[number], other.rows[place]) for number, place in meeting]
        return Table(self.rule, self.one, other.other, [told_pair(pair) for pair in pairs])

    def beside(self, other):
        """The table of both side by side, the boxes of the other one behind."""
        check_table(other, "other")
        if self.rule != other.rule:
            raise Misfit("rules")
        behind = tuple([_shifted_pair(pair, self.one, self.other) for pair in other.pairs])
        return Table(self.rule, self.one.plus(other.one), self.other.plus(other.other), self.pairs + behind)


def check_table(table, name):
    """BadTable with this name for any other value than a table."""
    if not isinstance(table, Table):
        raise BadTable(name)
