"""A log of where somebody goes, that forgets the order of the steps but for the exit lists of some places."""

from countedsteps.counts import Counts
from countedsteps.diaries import with_diaries
from countedsteps.errors import Apart, NothingDone
from countedsteps.journeys import exits


class Log:
    """How often each step was made so far, and the exit lists of the places in diaries."""

    def __init__(self, start, *, diaries=()):
        self._start = start
        self._here = start
        self._counts = Counts(start)
        self._lists = tuple([(place, ()) for place in sorted(set(diaries))])
        # For each deed what was kept ahead of it; nothing of that is ever changed, only replaced.
        self._done = []

    @property
    def start(self):
        """The place at which the log began."""
        return self._start

    @property
    def here(self):
        """The place at which they are."""
        return self._here

    @property
    def counts(self):
        """The Counts of all steps so far."""
        return self._counts

    @property
    def lists(self):
        """The ascending tuple of the pairs (place, its exit list so far) for the places in diaries."""
        return self._lists

    def _do(self, places):
        """Goes to the places, one behind another, as one deed; raises Still."""
        path = (self._here, *places)
        # The Counts raise the error, so they come ahead of all that is changed.
        made = Counts.of(path)
        self._done.append((self._here, self._counts, self._lists))
        self._here = path[-1]
        self._counts = self._counts + made
        self._lists = tuple([(place, row + exits(path, place)) for place, row in self._lists])

    def go(self, place):
        """Goes one step to the place."""
        self._do((place,))

    def walk(self, places):
        """Goes all these steps as one deed; returns how many."""
        self._do(places)
        return len(places)

    def __iadd__(self, other):
        """Goes all steps of the journey as one deed."""
        if other[0] != self._here:
            raise Apart(self._here, other[0])
        self._do(other[1:])
        return self

    def back(self):
        """Takes back the last deed that is not taken back yet."""
        if not self._done:
            raise NothingDone()
        self._here, self._counts, self._lists = self._done.pop()

    def __len__(self):
        return len(self._done)

    def possible(self):
        """How many journeys have these counts and these exit lists."""
        return with_diaries(self._counts, self._lists)

    def is_told(self):
        """Whether only the journey that was made has these counts and these exit lists."""
        return self.possible() == 1

    def twin(self):
        """A Log in the same state, with the same deeds to take back."""
        made = Log(self._start)
        made._here, made._counts, made._lists = self._here, self._counts, self._lists
        made._done = list(self._done)
        return made

    def __eq__(self, other):
        return (isinstance(other, Log) and self._start == other._start and self._here == other._here
                and self._counts == other._counts and self._lists == other._lists)
