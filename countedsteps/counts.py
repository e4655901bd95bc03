"""Counts: where a journey begins and how often each step is made."""

from countedsteps.errors import Below, NoPlace, Short, Still
from countedsteps.journeys import steps_of


def check_steps(steps):
    """Raises Still, then Below, for the first triple that tells no number of a STEP."""
    for one, other, _ in steps:
        if one == other:
            raise Still(one)
    for one, other, number in steps:
        if number < 0:
            raise Below(one, other, number)


def added_up(steps):
    """The ascending tuple of the triples, each STEP once, its numbers added, without 0."""
    many = {}
    for one, other, number in steps:
        many[one, other] = many.get((one, other), 0) + number
    return tuple([(one, other, many[one, other]) for one, other in sorted(many) if many[one, other] > 0])


class Counts:
    """A start and the number of each STEP; it does not change."""

    def __init__(self, start, steps=()):
        check_steps(steps)
        self._start = start
        self._steps = added_up(steps)
        self._many = {(one, other): number for one, other, number in self._steps}

    @staticmethod
    def of(journey):
        """The Counts that the journey has."""
        return Counts(journey[0], [(one, other, 1) for one, other in steps_of(journey)])

    @property
    def start(self):
        """The place at which the journeys begin."""
        return self._start

    @property
    def steps(self):
        """The ascending tuple of the triples (one, other, many), many above 0."""
        return self._steps

    @property
    def places(self):
        """The set of the start and of all places of the steps."""
        met = [place for one, other, _ in self._steps for place in (one, other)]
        return tuple(sorted(set([self._start, *met])))

    @property
    def total(self):
        """How many steps there are in all."""
        return sum([number for _, _, number in self._steps])

    @property
    def text(self):
        """A line for the start, then a line for each of the steps."""
        rows = [f"{one} {other} {number}" for one, other, number in self._steps]
        return "\n".join([f"from {self._start}", *rows])

    def __getitem__(self, at):
        """How often the STEP is made, 0 if never."""
        one, other = at
        return self._many.get((one, other), 0)

    def __contains__(self, x):
        """Whether the STEP is made at least once."""
        one, other = x
        return (one, other) in self._many

    # Without this, Python would go through the Counts by the indexes 0, 1, ..
    def __iter__(self):
        raise TypeError("Counts are not iterated over")

    def outs(self, place):
        """How many steps lead out of the place."""
        return sum([number for one, _, number in self._steps if one == place])

    def ins(self, place):
        """How many steps lead into the place."""
        return sum([number for _, other, number in self._steps if other == place])

    # The steps ascend and have each STEP once, so the next two are sets already.
    def nexts(self, place):
        """The set of the places to which steps lead from the place."""
        return tuple([other for one, other, _ in self._steps if one == place])

    def befores(self, place):
        """The set of the places from which steps lead to the place."""
        return tuple([one for one, other, _ in self._steps if other == place])

    def begun(self, place):
        """Counts with the same steps that begin at the place."""
        return Counts(place, self._steps)

    def check(self, place):
        """Raises NoPlace if the place is not one of the places."""
        if place not in self.places:
            raise NoPlace(place)

    def __eq__(self, other):
        return isinstance(other, Counts) and self._start == other._start and self._steps == other._steps

    def __add__(self, other):
        """The start of this one, the steps of both added."""
        return Counts(self._start, self._steps + other._steps)

    def __sub__(self, other):
        """The start of this one, its steps less those of the other one."""
        for one, to, number in other._steps:
            if self[one, to] < number:
                raise Short(one, to, number - self[one, to])
        left = [(one, to, number - other[one, to]) for one, to, number in self._steps]
        return Counts(self._start, left)
