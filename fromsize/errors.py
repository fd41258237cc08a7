"""The errors of the package, each with the fields that it was made with."""


class SizeError(ValueError):
    """The base of all errors of the package."""


class BadWiring(SizeError):
    """A value is no wiring."""

    def __init__(self, part):
        self.part = part


class BadTops(SizeError):
    """A value is no list of tops of a wiring, ascending, each once."""

    def __init__(self, part):
        self.part = part


class BadSum(SizeError):
    """A value is no sum, or no list of the pairs of one."""

    def __init__(self, part):
        self.part = part


class BadTies(SizeError):
    """A value is no ties."""

    def __init__(self, part):
        self.part = part


class BadEnds(SizeError):
    """A value is no list of ends that can be crossed."""

    def __init__(self, part):
        self.part = part


class BadTieSum(SizeError):
    """A value is no sum of ties, or no list of the pairs of one."""

    def __init__(self, part):
        self.part = part


class BadSetting(SizeError):
    """A value is no setting, or not as long as it must be."""

    def __init__(self, part):
        self.part = part


class BadTable(SizeError):
    """A value is no table, or not of the size that it must have."""

    def __init__(self, part):
        self.part = part


class BadWord(SizeError):
    """A value is no word."""

    def __init__(self, part):
        self.part = part


class BadFormula(SizeError):
    """A value is no formula, or not one of the kind that is asked for."""

    def __init__(self, part):
        self.part = part


class BadMeasure(SizeError):
    """A value is no measure, or no list of what one is made of."""

    def __init__(self, part):
        self.part = part


class BadNumber(SizeError):
    """A value is no integer, or not within its bounds, or no list of such."""

    def __init__(self, part):
        self.part = part


class Misfit(SizeError):
    """Values that are right one by one do not fit together."""

    def __init__(self, part):
        self.part = part


class TooMany(SizeError):
    """There are more of something than the most that there may be."""

    def __init__(self, what, most):
        self.what = what
        self.most = most


class BadText(SizeError):
    """A text cannot be read: the item at this place cannot stand, or is missing."""

    def __init__(self, item):
        self.item = item
