"""The last and the first steps out of places and into them: which, and in which share of the journeys."""

from countedsteps.errors import NoNumber, NotCounted
from countedsteps.exact import lowest
from countedsteps.pages import blank_row
from countedsteps.stands import end_of, need, turned_counts
from countedsteps.ties import led_to
from countedsteps.torn import Torn
from countedsteps.trees import tree_sum


def check_two(counts, one, other):
    """Raises NoJourney, then NoPlace for the first of the two places that the counts do not have."""
    need(counts)
    counts.check(one)
    counts.check(other)


def check_number(number, many):
    """Raises NoNumber if the number is not one of so many, counted from 0."""
    if number < 0 or number >= many:
        raise NoNumber(number)


def last_outs(counts, place):
    """The set of the places to which the last step out of the place can lead."""
    need(counts)
    counts.check(place)
    end = end_of(counts)
    if place == end:
        return counts.nexts(place)
    met = led_to(end, [(one, other) for one, other, _ in counts.steps if place not in (one, other)])
    return tuple([other for other in counts.nexts(place) if other in met])


def first_outs(counts, place):
    """The set of the places to which the first step out of the place can lead."""
    lasts = last_outs(counts, place)
    if counts.outs(place) < 2 or place == end_of(counts):
        return lasts
    # A step that is made once cannot be the first one only if it is the last one in all journeys.
    return tuple([other for other in counts.nexts(place) if counts[place, other] > 1 or lasts != (other,)])


def first_ins(counts, place):
    """The set of the places from which the first step into the place can come."""
    return last_outs(turned_counts(counts), place)


def last_ins(counts, place):
    """The set of the places from which the last step into the place can come."""
    return first_outs(turned_counts(counts), place)


def onward(steps):
    """Where each place leads by the steps; None if two of them lead from one place to unlike ones."""
    asked = sorted(set([(one, other) for one, other in steps]))
    lasts = dict(asked)
    return lasts if len(lasts) == len(asked) else None


def kept(counts, lasts):
    """The triples of the counts, but for each place in lasts only the one that leads where lasts tells."""
    return [(one, other, number) for one, other, number in counts.steps if lasts.get(one, other) == other]


def share_of(counts, lasts):
    """The share of the journeys in which each place in lasts is left for the last time to where lasts tells."""
    end = end_of(counts)
    upper, lower = tree_sum(end, kept(counts, lasts)), tree_sum(end, counts.steps)
    # All orders of the steps out of the end do, so each of these steps is the last one equally often.
    if end in lasts:
        upper, lower = upper * counts[end, lasts[end]], lower * counts.outs(end)
    return lowest(upper, lower)


def share_last(counts, one, other):
    """The share of the journeys in which the last step out of one leads to other."""
    check_two(counts, one, other)
    return share_of(counts, {one: other}) if (one, other) in counts else (0, 1)


def share_first_in(counts, one, other):
    """The share of the journeys in which the first step into other comes from one."""
    check_two(counts, one, other)
    return share_last(turned_counts(counts), other, one)


def share_out(counts, one, other, *, number=0):
    """The share of the journeys in which the step with this number out of one leads to other."""
    check_two(counts, one, other)
    many = counts.outs(one)
    check_number(number, many)
    upper, lower = share_last(counts, one, other)
    if number == many - 1 or one == end_of(counts):
        return (upper, lower)
    return lowest(counts[one, other] * lower - upper, (many - 1) * lower)


def share_in(counts, one, other, *, number=0):
    """The share of the journeys in which the step with this number into other comes from one."""
    check_two(counts, one, other)
    many = counts.ins(other)
    check_number(number, many)
    return share_out(turned_counts(counts), other, one, number=many - 1 - number)


def check_counted(counts, steps):
    """Raises NoJourney, then NotCounted for the first of the steps that the counts do not have."""
    need(counts)
    for one, other in steps:
        if (one, other) not in counts:
            raise NotCounted(one, other)


def can_be_last(counts, steps):
    """Whether in some journey each of the steps is the last one out of its place."""
    check_counted(counts, steps)
    lasts = onward(steps)
    if lasts is None:
        return False
    left = [(one, other) for one, other, _ in kept(counts, lasts)]
    return led_to(end_of(counts), left) == counts.places


def share_together(counts, steps):
    """The share of the journeys in which each of the steps is the last one out of its place."""
    return share_of(counts, onward(steps)) if can_be_last(counts, steps) else (0, 1)


def journey_with_last(counts, steps):
    """The least journey in which each of the steps is the last out of its place; None if there is none."""
    if not can_be_last(counts, steps):
        return None
    lasts = onward(steps)
    return Torn(counts, [(one, blank_row(counts, one)[1:] + (lasts[one],)) for one in sorted(lasts)]).first


def sure_lasts(counts):
    """The set of the steps that are the last one out of their place in all journeys."""
    need(counts)
    lasts = [(place, last_outs(counts, place)) for place in counts.places]
    return tuple([(place, others[0]) for place, others in lasts if len(others) == 1])


def sure_first_ins(counts):
    """The set of the steps that are the first one into their place in all journeys."""
    return tuple(sorted([(one, other) for other, one in sure_lasts(turned_counts(counts))]))
