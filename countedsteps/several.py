"""Several journeys in one count."""

from countedsteps.counts import Counts
from countedsteps.errors import NoJourney, NoNumber
from countedsteps.exact import arrangements
from countedsteps.journeys import is_journey
from countedsteps.passings import journey_passing, pass_range
from countedsteps.ranks import Journeys
from countedsteps.stands import some_journey, surplus, why_none
from countedsteps.tables import OUTSIDE
from countedsteps.trees import how_many


def in_one(row):
    """The one journey that is at "-" ahead of, between and behind the journeys of the ROW."""
    return (OUTSIDE,) + tuple([place for journey in row for place in (*journey, OUTSIDE)])


def in_parts(journey):
    """The ROW of the journeys between the visits of "-"."""
    cuts = [at for at, place in enumerate(journey) if place == OUTSIDE]
    return tuple([tuple(journey[one + 1:other]) for one, other in zip(cuts, cuts[1:])])


class Several:
    """How often the journeys of a ROW begin and end at places and make steps; it does not change."""

    # All is kept as the Counts of the one journey that in_one tells.
    def __init__(self, begins, ends, steps=()):
        outer = [(OUTSIDE, place, many) for place, many in begins] + [(place, OUTSIDE, many) for place, many in ends]
        self._counts = Counts(OUTSIDE, outer + list(steps))

    @staticmethod
    def of(row):
        """The Several that the ROW has."""
        steps = [(one, other, 1) for journey in row for one, other in zip(journey, journey[1:])]
        return Several([(journey[0], 1) for journey in row], [(journey[-1], 1) for journey in row], steps)

    @property
    def begins(self):
        """The ascending tuple of the pairs (place, how many journeys begin there)."""
        return tuple([(place, many) for one, place, many in self._counts.steps if one == OUTSIDE])

    @property
    def ends(self):
        """The ascending tuple of the pairs (place, how many journeys end there)."""
        return tuple([(place, many) for place, other, many in self._counts.steps if other == OUTSIDE])

    @property
    def steps(self):
        """The ascending tuple of the triples (one, other, many)."""
        return tuple([(one, other, many) for one, other, many in self._counts.steps if OUTSIDE not in (one, other)])

    @property
    def places(self):
        """The set of all places."""
        return tuple([place for place in self._counts.places if place != OUTSIDE])

    @property
    def size(self):
        """How many journeys begin."""
        return sum([many for _, many in self.begins])

    def __eq__(self, other):
        return isinstance(other, Several) and self._counts == other._counts

    def __add__(self, other):
        """Both together."""
        return Several(self.begins + other.begins, self.ends + other.ends, self.steps + other.steps)

    def turned(self):
        """That of the turned journeys."""
        return Several(self.ends, self.begins, [(other, one, many) for one, other, many in self.steps])

    def why_none(self):
        """None if some ROW has it, otherwise the first reason against it."""
        more = surplus(self._counts)
        # Nobody may end elsewhere than at "-", so why_none alone would tell too little.
        return ("surplus", more[0][0]) if more else why_none(self._counts)

    def is_had(self):
        """Whether some ROW has it."""
        return self.why_none() is None

    def _need(self):
        """Raises NoJourney if no ROW has it."""
        if not self.is_had():
            raise NoJourney()

    def how_many(self):
        """How many ROWs have it; 0 if none does."""
        return how_many(self._counts) if self.is_had() else 0

    def in_order(self, places):
        """How many of these ROWs have journeys that begin, one after another, at these places."""
        if sorted(places) != [place for place, many in self.begins for _ in range(many)]:
            return 0
        return self.how_many() // arrangements([many for _, many in self.begins])

    def is_row(self, thing):
        """Whether thing is a ROW that has it."""
        return (isinstance(thing, tuple) and all([is_journey(member) for member in thing])
                and Several.of(thing) == self)

    def some_row(self):
        """The least ROW; None if there is none."""
        return in_parts(some_journey(self._counts)) if self.is_had() else None

    def row(self, number):
        """The ROW with this number."""
        self._need()
        return in_parts(Journeys(self._counts)[number])

    def rank(self, row):
        """The number of the ROW."""
        self._need()
        return Journeys(self._counts).rank(in_one(row))

    def follow_range(self, one, other):
        """How often, at the least and at the most, a journey from other comes next behind one to one."""
        self._need()
        return pass_range(self._counts, one, OUTSIDE, other)

    def following(self, one, other, many):
        """A ROW with just so many."""
        least, greatest = self.follow_range(one, other)
        if many < least or many > greatest:
            raise NoNumber(many)
        # Without journeys "-" is the start and the end, and nothing can be tied to it.
        if self.size == 0:
            return ()
        return in_parts(journey_passing(self._counts, one, OUTSIDE, other, many))
