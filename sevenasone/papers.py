"""Papers: answers with what shows them; and denials, the papers that say no."""


def fixed(value):
    """The value with each list in it as a tuple, through lists and tuples."""
    if isinstance(value, (list, tuple)):
        return tuple([fixed(part) for part in value])
    return value


def _are_equal(one, other):
    """Whether a paper and any value are papers of one class with equal words and parts."""
    return type(one) is type(other) and one.word == other.word and one.parts == other.parts


class Paper:
    """A word and parts; true."""

    def __init__(self, word, *parts):
        self.word = word
        self.parts = fixed(parts)

    def __eq__(self, other):
        return _are_equal(self, other)

    def __bool__(self):
        return True


class Denial(Paper):
    """A paper that says no; false."""

    def __init__(self, word, *parts):
        super().__init__(word, *parts)

    def __eq__(self, other):
        return _are_equal(self, other)

    def __bool__(self):
        return False
