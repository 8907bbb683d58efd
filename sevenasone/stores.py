"""Stores: how many boxes there are that hold 0, 1, .. trees."""

from sevenasone.checks import is_within
from sevenasone.counts import is_counts, moved, plus, times
from sevenasone.errors import BadNumber, BadStore, BadText, TooMany
from sevenasone.texts import count_in, items_of, number_text

MOST_TREES = 40


class Store:
    """How many boxes there are that hold 0, 1, .. trees; perhaps none."""

    def __init__(self, counts):
        if not is_counts(counts) or not all([count >= 0 for count in counts]):
            raise BadStore("counts")
        if len(counts) > MOST_TREES + 1:
            raise TooMany("trees", MOST_TREES)
        self.counts = tuple(counts)
        self.is_endless = len(counts) > 1
        self.many = sum(counts)

    @staticmethod
    def read(text):
        """The store whose text this is."""
        items = items_of(text)
        if items[0] == "-":
            if len(items) > 1:
                raise BadText(0, 1)
            return Store(())
        counts = []
        for index, item in enumerate(items):
            count = count_in(item)
            # Behind the last place nothing may stand: so a zero there is the last count, whatever is written behind.
            least = 1 if index == MOST_TREES else 0
            if index > MOST_TREES or not is_within(count, least, None):
                raise BadText(0, index)
            counts.append(count)
        # Another count could have stood behind a zero: only the whole shows that none does.
        if counts[-1] == 0:
            raise BadText(0, len(counts) - 1)
        return Store(counts)

    def has(self, box):
        """Whether any value is a box of the store."""
        if not isinstance(box, (list, tuple)) or len(box) != 2:
            return False
        return is_within(box[0], 0, len(self.counts) - 1) and is_within(box[1], 0, self.counts[box[0]] - 1)

    def plus(self, other):
        """The store of both added: its boxes with as many trees come first."""
        check_store(other, "other")
        return Store(plus(self.counts, other.counts))

    def times(self, other):
        """The store of both multiplied: a box for each box of the one and each of the other."""
        check_store(other, "other")
        return Store(times(self.counts, other.counts))

    def __str__(self):
        if len(self.counts) == 0:
            return "-"
        return " ".join([number_text(count) for count in self.counts])

    def __eq__(self, other):
        return isinstance(other, Store) and self.counts == other.counts


def check_store(store, name):
    """BadStore with this name for any other value than a store."""
    if not isinstance(store, Store):
        raise BadStore(name)


def boxes_with(store, trees):
    """How many boxes of the store hold so many trees."""
    if trees >= len(store.counts):
        return 0
    return store.counts[trees]


def all_boxes(store):
    """The boxes of the store, ascending."""
    return [(trees, index) for trees, many in enumerate(store.counts) for index in range(many)]


def power_of(number):
    """The store of one box that holds so many trees."""
    if not is_within(number, 0, MOST_TREES):
        raise BadNumber("number")
    return Store(moved((1,), number))
