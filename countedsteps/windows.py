"""Windows: how often each stretch of one size comes in a journey.

A window leads from all but its last place to all but its first one. So Windows are Counts, if each stretch
that is shorter by one has a name: its places with blanks between. These names ascend as the stretches do.
"""

from countedsteps.counts import Counts
from countedsteps.errors import NoSize
from countedsteps.exact import is_number
from countedsteps.journeys import steps_of
from countedsteps.ranks import all_journeys
from countedsteps.stands import is_had, some_journey, why_none
from countedsteps.trees import how_many


def check_size(journey, size):
    """Raises NoSize if the journey has no windows of this size."""
    if size < 2 or size > len(journey) + 1:
        raise NoSize(size)


def cut(journey, size):
    """The list of the stretches of so many places, in their order in the journey."""
    return [tuple(journey[at:at + size]) for at in range(len(journey) + 1 - size)]


class Windows:
    """The head of a journey and the number of each window; it does not change."""

    def __init__(self, size, head, pairs=()):
        many = {}
        for window, number in pairs:
            many[tuple(window)] = many.get(tuple(window), 0) + number
        self._size = size
        self._head = tuple(head)
        self._pairs = tuple([(window, many[window]) for window in sorted(many) if many[window] > 0])
        self._many = {window: number for window, number in self._pairs}

    @staticmethod
    def of(journey, size):
        """The Windows of this size that the journey has."""
        check_size(journey, size)
        return Windows(size, journey[:size - 1], [(window, 1) for window in cut(journey, size)])

    @property
    def size(self):
        """How many places each window has."""
        return self._size

    @property
    def head(self):
        """The first size - 1 places of the journeys."""
        return self._head

    @property
    def pairs(self):
        """The ascending tuple of the pairs (window, number), the number above 0."""
        return self._pairs

    @property
    def total(self):
        """How many windows there are in all."""
        return sum([number for _, number in self._pairs])

    def __getitem__(self, at):
        """How often the window comes, 0 if never."""
        return self._many.get(tuple(at), 0)

    def __contains__(self, x):
        """Whether the window comes at least once."""
        return tuple(x) in self._many

    # Without this, Python would go through the Windows by the indexes 0, 1, ..
    def __iter__(self):
        raise TypeError("Windows are not iterated over")

    def __eq__(self, other):
        return isinstance(other, Windows) and self._head == other._head and self._pairs == other._pairs

    def narrower(self):
        """The Windows of size - 1 of every journey that has these."""
        if self._size == 2:
            raise NoSize(2)
        # No window but the first one has all its places behind the first place of a wider one.
        pairs = [(self._head, 1)] + [(window[1:], number) for window, number in self._pairs]
        return Windows(self._size - 1, self._head[:-1], pairs)

    def as_counts(self):
        """The Counts of every journey that has these Windows."""
        steps = [(one, other, 1) for one, other in steps_of(self._head)]
        return Counts(self._head[0], steps + [(window[-2], window[-1], number) for window, number in self._pairs])


def name_of(stretch):
    """The name of the stretch."""
    return " ".join(stretch)


def stretch_of(name):
    """The stretch that has this name."""
    return tuple(name.split(" "))


def named_counts(windows):
    """The Counts of the steps between names that the windows are."""
    return Counts(name_of(windows.head), [(name_of(window[:-1]), name_of(window[1:]), number)
                                          for window, number in windows.pairs])


def placed(row):
    """The journey over places that goes from stretch to stretch as the row of their names does."""
    return stretch_of(row[0]) + tuple([stretch_of(name)[-1] for name in row[1:]])


def why_none_with(windows):
    """None if some journey has the windows, otherwise the first reason against it."""
    reason = why_none(named_counts(windows))
    return None if reason is None else (reason[0], stretch_of(reason[1]))


def how_many_with(windows):
    """How many journeys have the windows; 0 if none has."""
    return how_many(named_counts(windows))


def some_with(windows):
    """The least journey that has the windows; None if there is none."""
    row = some_journey(named_counts(windows))
    return None if row is None else placed(row)


def all_with(windows, *, most=2000):
    """The ascending list of all journeys that have the windows."""
    counts = named_counts(windows)
    return [placed(row) for row in all_journeys(counts, most=most)] if is_had(counts) else []


def is_told_by(journey, size):
    """Whether no other journey has the same windows of this size."""
    return crossing_by(journey, size) is None


def crossing_by(journey, size):
    """Four indexes that show that another journey has the same windows; None if there is none."""
    check_size(journey, size)
    rows, wide = cut(journey, size - 1), cut(journey, size)
    last = {row: at for at, row in enumerate(rows)}
    late = [last[row] for row in rows]
    for other in range(len(wide)):
        inner = None
        for one in reversed(range(other)):
            # What recurs behind one and up to other is kept: it will do for all lesser indexes, too.
            if late[one + 1] > other:
                inner = one + 1
            if inner is not None and rows[one] == rows[other] and wide[one] != wide[other]:
                return (one, inner, other, late[inner])
    return None


def is_crossing_by(journey, size, thing):
    """Whether thing is such a tuple as crossing_by returns."""
    check_size(journey, size)
    if not isinstance(thing, tuple) or len(thing) != 4 or not all([is_number(member) for member in thing]):
        return False
    one, inner, other, late = thing
    rows = cut(journey, size - 1)
    if not 0 <= one < inner <= other < late < len(rows):
        return False
    return rows[one] == rows[other] and rows[inner] == rows[late] and rows[one + 1] != rows[other + 1]


def twin_by(journey, size):
    """Another journey with the same windows; None if there is none."""
    crossing = crossing_by(journey, size)
    if crossing is None:
        return None
    one, inner, other, late = crossing
    row = tuple(journey)
    return row[:one] + row[other:late] + row[inner:other] + row[one:inner] + row[late:]


def least_window(journey):
    """The least size by which the journey is told."""
    return told_from(journey, 2)


def told_from(journey, size):
    """The least size, from this one on, by which the journey is told."""
    while not is_told_by(journey, size):
        size = size + 1
    return size


def numbers_by(journey):
    """How many journeys have the same windows, for each size up to the least by which this one is told."""
    return [how_many_with(Windows.of(journey, size)) for size in range(2, least_window(journey) + 1)]


def told_apart(one, other):
    """The least size of which two journeys have unlike windows; None if they are equal."""
    # Journeys of unlike lengths have unlike windows of size 2 already.
    for size in range(2, len(one) + 2):
        if Windows.of(one, size) != Windows.of(other, size):
            return size
    return None


def window_for_all(counts, *, most=2000):
    """The least size by which every journey with the counts is told."""
    size = 2
    for journey in all_journeys(counts, most=most):
        size = told_from(journey, size)
    return size
