"""Whether some journey has the counts, where it ends, and how it can go on."""

from countedsteps.counts import Counts
from countedsteps.errors import NoJourney, Short
from countedsteps.ties import pieces_of


def more_out(steps):
    """For each place of the triples how many steps out of it there are, less those into it."""
    more = {}
    for one, other, number in steps:
        more[one] = more.get(one, 0) + number
        more[other] = more.get(other, 0) - number
    return more


def surplus(counts):
    """The set of the pairs (place, steps out less steps in), without 0."""
    more = more_out(counts.steps)
    return tuple([(place, more[place]) for place in sorted(more) if more[place] != 0])


def pieces(counts):
    """The ascending list of the sets of places that hang together by steps."""
    return pieces_of(counts.places, [(one, other) for one, other, _ in counts.steps])


def why_none(counts):
    """None if some journey has the counts, otherwise the first reason against it."""
    for place, number in surplus(counts):
        if number < -1 or number > 1 or (number > 0 and place != counts.start):
            return ("surplus", place)
    # The pieces ascend, so the first place of the first one is the least.
    for piece in pieces(counts):
        if counts.start not in piece:
            return ("apart", piece[0])
    return None


def is_had(counts):
    """Whether some journey has the counts."""
    return why_none(counts) is None


def need(counts):
    """Raises NoJourney if no journey has the counts."""
    if not is_had(counts):
        raise NoJourney()


def end_of(counts):
    """The place at which all journeys with the counts end."""
    need(counts)
    for place, number in surplus(counts):
        if number < 0:
            return place
    return counts.start


def turned_counts(counts):
    """The Counts that the turned journeys have."""
    return Counts(end_of(counts), [(other, one, number) for one, other, number in counts.steps])


def gone(counts, place):
    """What is left when the first step leads to the place."""
    # The start is no step away from itself, and Counts with such a step would raise Still.
    if (counts.start, place) not in counts:
        raise Short(counts.start, place, 1)
    return (counts - Counts(counts.start, ((counts.start, place, 1),))).begun(place)


def open_steps(counts):
    """The ascending list of the places to which the first step of a journey can lead."""
    return [place for place in counts.nexts(counts.start) if is_had(gone(counts, place))]


def some_journey(counts):
    """The least journey that has the counts; None if there is none."""
    if not is_had(counts):
        return None
    path = [counts.start]
    left = counts
    for _ in range(counts.total):
        path.append(open_steps(left)[0])
        left = gone(left, path[-1])
    return tuple(path)
