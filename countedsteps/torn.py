"""Torn diaries: journeys of which some members of the exit lists can be read, and others not."""

from countedsteps.counts import Counts
from countedsteps.errors import BadLists, NoJourney, NoNumber, NoPlace, Unlike
from countedsteps.exact import lowest
from countedsteps.journeys import as_tuples, exits
from countedsteps.pages import UNREAD, blank_pages, fit_at, fits_between, many_fits, page_of, read_page
from countedsteps.stands import end_of
from countedsteps.trees import comes_to, exit_lists, last_steps


def noted_pages(counts, notes):
    """The pages of which is read what the notes tell; raises BadLists."""
    pages = blank_pages(counts)
    for place, row in notes:
        page = page_of(counts, place, row)
        if page is None:
            raise BadLists(place)
        pages[place] = page
    return pages


def agrees(row, members):
    """Whether the members are what the row tells, wherever it can be read."""
    return all([told in (UNREAD, member) for told, member in zip(row, members)])


def with_member(notes, place, at, member):
    """The notes in which this member of the place's row is the one that is given."""
    return tuple([(one, row[:at] + (member,) + row[at + 1:] if one == place else row) for one, row in notes])


class Torn:
    """The journeys that fit the notes, ascending, without being listed; it does not change."""

    def __init__(self, counts, notes=()):
        self._end = end_of(counts)
        self._counts = counts
        self._pages = noted_pages(counts, notes)
        self._notes = tuple([(place, row) for place, (row, _) in self._pages.items() if row])
        self._many = many_fits(self._end, self._pages)

    @property
    def counts(self):
        """The Counts that all these journeys have."""
        return self._counts

    @property
    def notes(self):
        """The notes, with a row for each place that has steps out."""
        return self._notes

    @property
    def many(self):
        """How many journeys fit."""
        return self._many

    @property
    def first(self):
        """The least journey that fits; None if none fits."""
        return self[0] if self._many > 0 else None

    @property
    def last(self):
        """The greatest journey that fits; None if none fits."""
        return self[self._many - 1] if self._many > 0 else None

    def __getitem__(self, at):
        """The journey with this number of those that fit."""
        if at < 0 or at >= self._many:
            raise NoNumber(at)
        return fit_at(self._counts.start, self._end, self._pages, at)

    def __contains__(self, x):
        """Whether the journey fits."""
        return Counts.of(x) == self._counts and all([agrees(row, exits(x, place)) for place, row in self._notes])

    # Without this, Python would go through the journeys by the indexes 0, 1, ..
    def __iter__(self):
        raise TypeError("a Torn is not iterated over")

    def __eq__(self, other):
        return isinstance(other, Torn) and self._counts == other._counts and self._notes == other._notes

    def rank(self, journey):
        """The number of the journey among those that fit."""
        if journey not in self:
            raise Unlike()
        return self.between(journey)[0]

    def between(self, row):
        """How many that fit are less than the row, and how many of all are so or begin with it."""
        return fits_between(self._counts.start, self._end, self._pages, row)

    def _check_member(self, place, number):
        """Raises NoPlace, then NoNumber, if there is no such member."""
        self._counts.check(place)
        if number < 0 or number >= self._counts.outs(place):
            raise NoNumber(number)

    def _many_with(self, place, number, other):
        """How many journeys that fit have other as this member."""
        page = read_page(self._pages[place], number, other)
        return 0 if page is None else many_fits(self._end, {**self._pages, place: page})

    def may_stand(self, place, number):
        """The set of the places that this member is in the journeys that fit."""
        self._check_member(place, number)
        return tuple([other for other in self._counts.nexts(place) if self._many_with(place, number, other) > 0])

    def share(self, place, number, other):
        """The FRACTION of the journeys that fit in which this member is other."""
        self._check_member(place, number)
        if self._many == 0:
            raise NoJourney()
        return lowest(self._many_with(place, number, other), self._many)

    def read(self, place, number, other):
        """The Torn in which this member is read, too."""
        self._check_member(place, number)
        if read_page(self._pages[place], number, other) is None:
            raise BadLists(place)
        return Torn(self._counts, with_member(self._notes, place, number, other))

    def sure(self):
        """The notes with each member read that is the same in all journeys that fit."""
        if self._many == 0:
            return None
        return tuple([(place, self._surely(place, len(row))) for place, row in self._notes])

    def _surely(self, place, length):
        """The row of the place as all journeys that fit have it, with "?" where they differ."""
        choices = [self.may_stand(place, at) for at in range(length)]
        return tuple([others[0] if len(others) == 1 else UNREAD for others in choices])

    def needless(self):
        """The set of the members that are read, and need not be, each by itself."""
        read = [(place, at) for place, row in self._notes for at, member in enumerate(row) if member != UNREAD]
        return tuple([(place, at) for place, at in read if self._unread(place, at).many == self._many])

    def _unread(self, place, at):
        """The Torn in which this member is not read."""
        return Torn(self._counts, with_member(self._notes, place, at, UNREAD))

    def twin(self, journey):
        """Another journey that fits, unlike this one in one exit list alone; None if there is none."""
        if journey not in self:
            raise Unlike()
        lists = exit_lists(journey)
        told = dict(self._notes)
        for place, _ in lists:
            torn = Torn(self._counts, [(one, told[one] if one == place else row) for one, row in lists])
            if torn.many > 1:
                return torn[1] if torn.first == as_tuples(journey) else torn.first
        return None


def notes_of(journey, members):
    """The notes of the journey in which just these members are read."""
    for place, number in members:
        if place not in journey:
            raise NoPlace(place)
        if number < 0 or number >= len(exits(journey, place)):
            raise NoNumber(number)
    read = as_tuples(members)
    return tuple([(place, tuple([other if (place, at) in read else UNREAD for at, other in enumerate(row)]))
                  for place, row in exit_lists(journey)])


def can_stay_unread(place, row, lasts, other):
    """The indexes in the row that need not be read if the place other is to fill them."""
    unread = [at for at, member in enumerate(row) if member == other]
    # Were other the last member, the last steps would lead in a circle.
    if row[-1] != other and place in dict(lasts) and comes_to(lasts, other, place):
        unread.append(len(row) - 1)
    return unread


def to_read(place, row, lasts):
    """The indexes in the row of the place that must be read, as few as can be."""
    unread = max([can_stay_unread(place, row, lasts, other) for other in row], key=len)
    return [at for at in range(len(row)) if at not in unread]


def members_for(journey):
    """A set of members, as few as can be, with which the journey is the only one that fits."""
    lasts = last_steps(journey)
    return tuple([(place, at) for place, row in exit_lists(journey) for at in to_read(place, row, lasts)])


def fewest_members(journey):
    """How many members must be read at the least, so that the journey is the only one that fits."""
    return len(members_for(journey))
