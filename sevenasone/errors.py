"""The errors of the package: each keeps its fields as they were passed."""


class TreeError(ValueError):
    """The base of all errors of the package."""


class BadRule(TreeError):
    """What was passed as this part is no rule."""

    def __init__(self, part):
        self.part = part


class BadCounts(TreeError):
    """What was passed as this part is no counts."""

    def __init__(self, part):
        self.part = part


class BadStore(TreeError):
    """What was passed as this part is no store."""

    def __init__(self, part):
        self.part = part


class BadTree(TreeError):
    """What was passed as this part is no tree of the rule."""

    def __init__(self, part):
        self.part = part


class BadThing(TreeError):
    """What was passed as this part is no thing of the store."""

    def __init__(self, part):
        self.part = part


class BadChain(TreeError):
    """What was passed as this part is no chain, or no step."""

    def __init__(self, part):
        self.part = part


class BadPattern(TreeError):
    """What was passed as this part is no pattern of the store."""

    def __init__(self, part):
        self.part = part


class BadLot(TreeError):
    """What was passed as this part is no lot of patterns, or none that is full."""

    def __init__(self, part):
        self.part = part


class BadTable(TreeError):
    """What was passed as this part is no table, or no pair of one."""

    def __init__(self, part):
        self.part = part


class BadNumber(TreeError):
    """What was passed as this part is no integer, or one out of its bounds."""

    def __init__(self, part):
        self.part = part


class BadPaper(TreeError):
    """What was passed as this part is no paper of the class asked for."""

    def __init__(self, part):
        self.part = part


class Misfit(TreeError):
    """This part is right by itself, but does not fit what it was passed with."""

    def __init__(self, part):
        self.part = part


class Missing(TreeError):
    """A value that is none here; only the errors below it are raised."""

    def __init__(self, value):
        self.value = value


class NoKnot(Missing):
    """The value is no knot of the rule."""

    def __init__(self, value):
        self.value = value


class NoBox(Missing):
    """The value is no box of the store."""

    def __init__(self, value):
        self.value = value


class NoHole(Missing):
    """The value is no number of a hole."""

    def __init__(self, value):
        self.value = value


class NoStep(Missing):
    """The value is the index of a step that cannot be done."""

    def __init__(self, value):
        self.value = value


class Impossible(TreeError):
    """There is none; the paper, a denial, shows it."""

    def __init__(self, paper):
        self.paper = paper


class TooMany(TreeError):
    """There are more of what is named than the most that are let."""

    def __init__(self, what, most):
        self.what = what
        self.most = most


class BadText(TreeError):
    """An item of a text cannot stand; the line is always 0."""

    def __init__(self, line, item):
        self.line = line
        self.item = item
