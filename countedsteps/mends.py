"""The fewest journeys that cover steps, and the fewest further steps that make one journey of them.

A part tells of a piece of places, ascending, the pairs (place, steps out of it less steps into it).
"""

from countedsteps.counts import Counts, added_up, check_steps
from countedsteps.exact import is_number
from countedsteps.journeys import is_step
from countedsteps.several import Several
from countedsteps.stands import is_had, more_out
from countedsteps.ties import pieces_of


def parts_of(places, steps):
    """The list of the parts of these places and those of the steps, that hang together by the steps."""
    ties = [(one, other) for one, other, _ in added_up(steps)]
    more = more_out(steps)
    names = sorted(set([*places, *[place for tie in ties for place in tie]]))
    return [tuple([(place, more.get(place, 0)) for place in piece]) for piece in pieces_of(names, ties)]


def begins_of(part):
    """The pairs (place, how many begin there) of journeys that cover the steps of the part, as few as can be."""
    return [(place, more) for place, more in part if more > 0] or [(part[0][0], 1)]


def ends_of(part):
    """The pairs (place, how many end there) of the same journeys."""
    return [(place, -more) for place, more in part if more < 0] or [(part[0][0], 1)]


def fewest_of(parts):
    """How many journeys cover the steps of all parts, as few as can be."""
    return sum([many for part in parts for _, many in begins_of(part)])


def covered_parts(steps):
    """The list of the parts that have the steps; raises Still, then Below."""
    check_steps(steps)
    return parts_of((), steps)


def fewest_journeys(steps):
    """How many journeys cover the steps, as few as can be."""
    return fewest_of(covered_parts(steps))


def covered_by(steps):
    """A list of so few journeys that cover the steps."""
    parts = covered_parts(steps)
    begins = [pair for part in parts for pair in begins_of(part)]
    ends = [pair for part in parts for pair in ends_of(part)]
    return list(Several(begins, ends, steps).some_row())


def is_even(part):
    """Whether no place of the part has more steps out than in, or fewer."""
    return all([more == 0 for _, more in part])


def can_begin(place, steps):
    """Whether one of so few journeys that cover the steps can begin at the place."""
    return any([name == place and (more > 0 or is_even(part))
                for part in covered_parts(steps) for name, more in part])


def mends(start, steps):
    """How many steps must be added at the least, so that some journey from start makes all."""
    return fewest_journeys(steps) - (1 if can_begin(start, steps) else 0)


def mend(start, steps):
    """So few steps, as ascending triples."""
    fewest = mends(start, steps)
    # No step that leads elsewhere at last would be needed.
    ends = [end for end in Counts(start, steps).places if mends_to(start, end, steps) == fewest]
    return mend_to(start, ends[0], steps)


def is_triple(thing):
    """Whether thing is a triple of two places of a STEP and a number from 1 on."""
    if not isinstance(thing, tuple) or len(thing) != 3:
        return False
    one, other, many = thing
    return is_step((one, other)) and is_number(many) and many >= 1


def is_mend(start, steps, thing):
    """Whether thing is such a tuple of triples as mend returns."""
    fewest = mends(start, steps)
    if not isinstance(thing, tuple) or not all([is_triple(member) for member in thing]):
        return False
    # Added up, they would be the same only if each STEP stands there once, and they ascend.
    return (added_up(thing) == thing and sum([many for _, _, many in thing]) == fewest
            and is_had(Counts(start, [*steps, *thing])))


def closed_parts(start, end, steps):
    """The list of the parts if a step leads from the end back to the start; raises Still, then Below."""
    check_steps(steps)
    back = [(end, start, 1)] if start != end else []
    return parts_of((start,), [*steps, *back])


def is_whole(parts):
    """Whether one journey that comes back to its start makes the steps of all parts."""
    return len(parts) == 1 and is_even(parts[0])


def mends_to(start, end, steps):
    """How many steps must be added at the least, so that some journey from start to end makes all."""
    parts = closed_parts(start, end, steps)
    return 0 if is_whole(parts) else fewest_of(parts)


def mend_to(start, end, steps):
    """So few steps, as ascending triples."""
    parts = closed_parts(start, end, steps)
    if is_whole(parts):
        return ()
    begins = [place for part in parts for place, many in begins_of(part) for _ in range(many)]
    ends = [place for part in parts for place, many in ends_of(part) for _ in range(many)]
    # Behind each journey the next one is begun, behind the last one the first one again.
    return added_up([(one, other, 1) for one, other in zip(ends, begins[1:] + begins[:1])])
