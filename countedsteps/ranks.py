"""All journeys that have the counts, by their numbers."""

from countedsteps.counts import Counts
from countedsteps.errors import NoNumber, TooMany, Unlike
from countedsteps.pages import blank_pages, fit_at, fits_between, many_fits
from countedsteps.stands import end_of, need
from countedsteps.trees import by_lists, how_many, trees


class Journeys:
    """The journeys that have the counts, ascending, without being listed; it does not change."""

    def __init__(self, counts):
        self._end = end_of(counts)
        self._counts = counts
        self._pages = blank_pages(counts)
        self._many = many_fits(self._end, self._pages)

    @property
    def counts(self):
        """The Counts that all these journeys have."""
        return self._counts

    @property
    def many(self):
        """How many journeys there are."""
        return self._many

    @property
    def first(self):
        """The least journey."""
        return self[0]

    @property
    def last(self):
        """The greatest journey."""
        return self[self._many - 1]

    def __getitem__(self, at):
        """The journey with this number."""
        if at < 0 or at >= self._many:
            raise NoNumber(at)
        return fit_at(self._counts.start, self._end, self._pages, at)

    def __contains__(self, x):
        """Whether the journey has the counts."""
        return Counts.of(x) == self._counts

    # Without this, Python would go through the journeys by the indexes 0, 1, ..
    def __iter__(self):
        raise TypeError("Journeys are not iterated over")

    def __eq__(self, other):
        return isinstance(other, Journeys) and self._counts == other._counts

    def rank(self, journey):
        """The number of the journey."""
        if journey not in self:
            raise Unlike()
        return self.between(journey)[0]

    def after(self, journey):
        """The next journey; None behind the last one."""
        number = self.rank(journey) + 1
        return self[number] if number < self._many else None

    def ahead(self, journey):
        """The journey just ahead of this one; None ahead of the first one."""
        number = self.rank(journey) - 1
        return self[number] if number >= 0 else None

    def between(self, row):
        """How many journeys are less than the row, and how many of all are so or begin with it."""
        return fits_between(self._counts.start, self._end, self._pages, row)


def exit_orders(counts, place, last):
    """All exit lists of the place that end with last; whatever they end with if last is None."""
    left = {other: counts[place, other] - (1 if other == last else 0) for other in counts.nexts(place)}
    rows = [()]
    for _ in range(sum(left.values())):
        rows = [(*row, other) for row in rows for other in left if row.count(other) < left[other]]
    return [row if last is None else (*row, last) for row in rows]


def lists_with(counts, tree):
    """All exit lists of the journeys with these last steps."""
    lasts = dict(tree)
    made = [()]
    for place in counts.places:
        rows = exit_orders(counts, place, lasts.get(place))
        made = [(*lists, (place, row)) for lists in made for row in rows]
    return made


def all_journeys(counts, *, most=2000):
    """The ascending list of all journeys that have the counts."""
    need(counts)
    if how_many(counts) > most:
        raise TooMany(most)
    # Each tree with each order of the rest gives one journey, so nothing is tried in vain.
    return sorted([by_lists(counts.start, lists) for tree in trees(counts) for lists in lists_with(counts, tree)])
