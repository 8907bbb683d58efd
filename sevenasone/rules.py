"""Rules: of which knots trees are made."""

from sevenasone.checks import is_numbers, is_within
from sevenasone.counts import less
from sevenasone.errors import BadRule, BadText
from sevenasone.texts import count_in, items_of

LEAST_COUNTS = 3
MOST_COUNTS = 6
MOST_SORTS = 3


def _are_rule_counts(value):
    if not is_numbers(value) or not LEAST_COUNTS <= len(value) <= MOST_COUNTS:
        return False
    return all([0 <= count <= MOST_SORTS for count in value]) and value[0] > 0 and value[-1] > 0


class Rule:
    """How many sorts of knots there are with 0, 1, .. parts."""

    def __init__(self, counts):
        if not _are_rule_counts(counts):
            raise BadRule("counts")
        self.counts = tuple(counts)
        self.knots = tuple([(parts, index) for parts, many in enumerate(counts) for index in range(many)])
        self.top = len(counts) - 1
        self.stepped = less(counts, (0, 1))

    @staticmethod
    def read(text):
        """The rule whose text this is."""
        items = items_of(text)
        counts = []
        for index, item in enumerate(items):
            count = count_in(item)
            # Behind the last place nothing may stand: so a zero there is the last count, whatever is written behind.
            least = 1 if index in (0, MOST_COUNTS - 1) else 0
            if index >= MOST_COUNTS or not is_within(count, least, MOST_SORTS):
                raise BadText(0, index)
            counts.append(count)
        if len(counts) < LEAST_COUNTS:
            raise BadText(0, len(counts))
        # Another count could have stood behind a zero: only the whole shows that none does.
        if counts[-1] == 0:
            raise BadText(0, len(counts) - 1)
        return Rule(counts)

    def __str__(self):
        return " ".join([str(count) for count in self.counts])

    def __eq__(self, other):
        return isinstance(other, Rule) and self.counts == other.counts


def check_rule(rule):
    """BadRule for any other value than a rule."""
    if not isinstance(rule, Rule):
        raise BadRule("rule")
