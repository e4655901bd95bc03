"""All errors that the package raises; each keeps its values under their names."""


class NoPlace(LookupError):
    """There is no such place."""

    def __init__(self, place):
        self.place = place


class NoNumber(LookupError):
    """Nothing has this number."""

    def __init__(self, number):
        self.number = number


class NoJourney(ValueError):
    """No journey has the counts."""


class Apart(ValueError):
    """One journey ends at a place, and the next one begins at another."""

    def __init__(self, end, begin):
        self.end = end
        self.begin = begin


class Still(ValueError):
    """A step leads from a place to itself."""

    def __init__(self, place):
        self.place = place


class Below(ValueError):
    """A step is said to be made a number of times that is below 0."""

    def __init__(self, one, other, number):
        self.one = one
        self.other = other
        self.number = number


class Short(ValueError):
    """So many steps from one to other are lacking."""

    def __init__(self, one, other, lacking):
        self.one = one
        self.other = other
        self.lacking = lacking


class NoSize(ValueError):
    """There are no windows of this size."""

    def __init__(self, number):
        self.number = number


class Unlike(ValueError):
    """The journey is none of those that are asked."""


class NoTree(ValueError):
    """The steps are no tree of the counts."""


class NotCounted(ValueError):
    """The counts do not have the step from one to other."""

    def __init__(self, one, other):
        self.one = one
        self.other = other


class TooMany(ValueError):
    """There are more than the most that may be listed."""

    def __init__(self, most):
        self.most = most


class BadTable(ValueError):
    """No journey has all the tables."""


class BadLists(ValueError):
    """The row of this place does not agree with the counts."""

    def __init__(self, place):
        self.place = place


class BadText(ValueError):
    """The text is not written as it must be."""


class BadLine(ValueError):
    """The line with this number is not written as it must be."""

    def __init__(self, number):
        self.number = number


class NothingDone(ValueError):
    """There is nothing to take back."""
