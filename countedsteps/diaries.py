"""Diaries of some places: which journeys have the same exit lists there."""

from countedsteps.errors import BadLists
from countedsteps.journeys import exits
from countedsteps.lasts import journey_with_last, last_outs
from countedsteps.pages import less
from countedsteps.stands import end_of, need
from countedsteps.ties import ways_to
from countedsteps.torn import Torn
from countedsteps.trees import by_lists, exit_lists, exit_numbers


def diaries_of(journey, places):
    """The LISTS of just these places that the journey has."""
    return tuple([(place, exits(journey, place)) for place in places])


def diaries_torn(counts, lists):
    """The Torn of the journeys that have the LISTS; raises BadLists."""
    need(counts)
    for place, row in lists:
        if tuple([(other, row.count(other)) for other in sorted(set(row))]) != exit_numbers(counts, place):
            raise BadLists(place)
    return Torn(counts, lists)


def with_diaries(counts, lists):
    """How many journeys have these LISTS."""
    return diaries_torn(counts, lists).many


def by_diaries(counts, lists):
    """A journey that has these LISTS; None if there is none."""
    return diaries_torn(counts, lists).first


def exchanged(row, at):
    """The row in which the first member and the one with this index have changed places."""
    return (row[at], *row[1:at], row[0], *row[at + 1:])


def changed_at(journey, place):
    """Another journey with the same Counts and exit lists, but for that of the place; None if there is none."""
    lists = exit_lists(journey)
    row = exits(journey, place)
    # If any two members can be exchanged, the first one can be with one that is unlike.
    for at in range(len(row)):
        if row[at] != row[0]:
            changed = [(one, exchanged(row, at) if one == place else exit_list) for one, exit_list in lists]
            other = by_lists(journey[0], changed)
            if other is not None:
                return other
    return None


def needed_for(journey):
    """The set of the places at which alone the journey can be changed."""
    return tuple([place for place, _ in exit_lists(journey) if changed_at(journey, place) is not None])


def are_in(ones, others):
    """Whether each of the ones is one of the others."""
    return all([one in others for one in ones])


def tells(journey, places):
    """Whether no other journey with the same Counts has the same exit lists at all of these places."""
    return are_in(needed_for(journey), places)


def is_needed(counts, place):
    """Whether the exit list of the place is not the same in all journeys."""
    lasts = last_outs(counts, place)
    if len(lasts) != 1:
        return len(lasts) > 1
    # The last member is always the same, so it depends on the ones ahead of it.
    return len(less(exit_numbers(counts, place), lasts[0])) > 1


def needed(counts):
    """The set of the places whose exit list is not the same in all journeys."""
    need(counts)
    return tuple([place for place in counts.places if is_needed(counts, place)])


def tells_all(counts, places):
    """Whether no two journeys have the same exit lists at all of these places."""
    return are_in(needed(counts), places)


def lasts_around(counts, place):
    """Last steps by which each place that can reach the end without this one does so."""
    steps = [(one, other) for one, other, _ in counts.steps]
    far = ways_to(place, steps)
    near = ways_to(end_of(counts), [step for step in steps if place not in step])
    lasts = {**far, **near, place: last_outs(counts, place)[0]}
    return tuple([(one, lasts[one]) for one in sorted(lasts)])


def two_alike(counts, places):
    """Two journeys that are unlike at one place alone, none of these; None if there are none."""
    free = [place for place in needed(counts) if place not in places]
    if not free:
        return None
    # With these last steps any member of the exit list that can be the last one can become it.
    journey = journey_with_last(counts, lasts_around(counts, free[0]))
    return tuple(sorted([journey, changed_at(journey, free[0])]))
