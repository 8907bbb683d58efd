"""Papers: answers with what shows them; and denials, the papers that say no."""


def fixed(value):
    """The value with each list in it as a tuple, through lists and tuples."""
    if isinstance(value, (list, tuple)):
        return tuple([fixed(part) for part in value])
    return value


def _are_equal(one, other):
    return type(one) is type(other) and one.word == other.word and one.parts == other.parts


class Paper:
    """A word and parts; true."""

    def __init__(self, word, *parts):
        self.word = word
        self.parts = fixed(parts)

    def __eq__(self, other):
        if not isinstance(other, Paper):
            return False
        return _are_equal(self, other)

    def __bool__(self):
        return True


class Denial(Paper):
    """A paper that says no; false."""

    def __init__(self, word, *parts):
        super().__init__(word, *parts)

    def __eq__(self, other):
        if not isinstance(other, Denial):
            return False
        return _are_equal(self, other)

    def __bool__(self):
        return False
