"""Which places are left for good, or met first, ahead of other ones."""

from countedsteps.counts import Counts
from countedsteps.journeys import is_journey, joined, turned
from countedsteps.lasts import check_two
from countedsteps.stands import end_of, gone, need, open_steps, pieces, some_journey, turned_counts


def left_order(journey):
    """The tuple of the places of the journey, in the order of their last visits."""
    return tuple([place for at, place in enumerate(journey) if place not in journey[at + 1:]])


def met_order(journey):
    """The tuple of the places of the journey, in the order of their first visits."""
    return tuple([place for at, place in enumerate(journey) if place not in journey[:at]])


def piece_of(counts, place):
    """The set of the places that hang together with the place by steps, itself among them."""
    return [piece for piece in pieces(counts.begun(place)) if place in piece][0]


def leaves_tied(counts, place, path):
    """Whether the place still hangs together with the first one of the path when its steps are taken out."""
    return place in piece_of(counts - Counts.of(path), path[0])


def longer_paths(counts, place, paths):
    """The paths by one step longer, no place twice and none of them the place."""
    return [(*path, other) for path in paths for other in counts.nexts(path[-1])
            if other != place and other not in path]


def path_ahead(counts, place, other):
    """A path that shows that the place can be left ahead of the other one; None if it cannot."""
    check_two(counts, place, other)
    end = end_of(counts)
    paths = [(other,)]
    while paths:
        for path in paths:
            if path[-1] == end and leaves_tied(counts, place, path):
                return path
        paths = longer_paths(counts, place, [path for path in paths if path[-1] != end])
    return None


def is_path(counts, place, other, thing):
    """Whether thing is a path from the other place to the end, without the place."""
    if not is_journey(thing) or thing[0] != other or thing[-1] != end_of(counts):
        return False
    counted = all([step in counts for step in zip(thing, thing[1:])])
    return counted and place not in thing and len(set(thing)) == len(thing)


def is_path_ahead(counts, place, other, thing):
    """Whether thing is a path that shows that the place can be left ahead of the other one."""
    check_two(counts, place, other)
    return is_path(counts, place, other, thing) and leaves_tied(counts, place, thing)


def left_ahead(counts, place, other):
    """Whether the place is left ahead of the other one: "always", "sometimes" or "never"."""
    if path_ahead(counts, place, other) is None:
        return "never"
    return "always" if path_ahead(counts, other, place) is None else "sometimes"


def met_ahead(counts, place, other):
    """Whether the place is met ahead of the other one: "always", "sometimes" or "never"."""
    check_two(counts, place, other)
    # Of a turned journey the last visits are the first ones.
    return left_ahead(turned_counts(counts), other, place)


def tour(left, place):
    """The least journey that goes from the place by all steps of its piece of what is left."""
    piece = piece_of(left, place)
    return some_journey(Counts(place, [(one, other, many) for one, other, many in left.steps if one in piece]))


def journey_by_path(counts, path):
    """A journey that goes by the path at last, but for tours to what does not hang together with its beginning."""
    left = counts - Counts.of(path)
    journey = (counts.start,)
    # The first tour ends where the path begins; each other one comes back to where it begins.
    for place in (counts.start, *path):
        if place != journey[-1]:
            journey = (*journey, place)
        made = tour(left, place)
        left = left - Counts.of(made)
        journey = joined(journey, made)
    return journey


def journey_ahead(counts, place, other, *, first=False):
    """A journey in which the place is left, or met if first is True, ahead of the other one; None if there is none."""
    if first:
        check_two(counts, place, other)
        journey = journey_ahead(turned_counts(counts), other, place)
        return None if journey is None else turned(journey)
    path = path_ahead(counts, place, other)
    return None if path is None else journey_by_path(counts, path)


def pairs_of(counts):
    """The ascending list of the pairs of unlike places."""
    return [(place, other) for place in counts.places for other in counts.places if place != other]


def always_left(counts):
    """The ascending list of the pairs (place, other), the place left ahead of the other one in every journey."""
    need(counts)
    # One of two places is left ahead of the other one in each journey.
    return [(place, other) for place, other in pairs_of(counts) if path_ahead(counts, other, place) is None]


def always_met(counts):
    """The ascending list of the pairs (place, other), the place met ahead of the other one in every journey."""
    return sorted([(place, other) for other, place in always_left(turned_counts(counts))])


def sure_beginning(counts):
    """The longest journey with which every journey begins."""
    need(counts)
    path, left = [counts.start], counts
    others = open_steps(left)
    while len(others) == 1:
        path.append(others[0])
        left = gone(left, path[-1])
        others = open_steps(left)
    return tuple(path)


def sure_end(counts):
    """The longest journey with which every journey ends."""
    return turned(sure_beginning(turned_counts(counts)))
