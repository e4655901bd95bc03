"""Stretches: rows of places that come in some journeys, one directly behind another.

To fold a stretch that is to come many times is to take its steps out of the counts as often, and to put in a
new place instead, with as many steps to it from the first place of the stretch and from it to the last one.
"""

from countedsteps.counts import Counts
from countedsteps.exact import factorial, lowest
from countedsteps.journeys import as_tuples, steps_of, turned
from countedsteps.stands import is_had, need, some_journey, turned_counts
from countedsteps.trees import how_many


def visits_of(journey, stretch):
    """The set of the visits at which the journey has the stretch."""
    row, wanted = tuple(journey), tuple(stretch)
    return tuple([at for at in range(len(row)) if row[at:at + len(wanted)] == wanted])


def numbered(stretches):
    """The ascending list of the pairs (stretch, how often it comes)."""
    many = {}
    for stretch in as_tuples(stretches):
        many[stretch] = many.get(stretch, 0) + 1
    return [(stretch, many[stretch]) for stretch in sorted(many)]


def folded_name(at):
    """The name of the new place for the stretch with this index; no PLACE is called so."""
    return f"+{at}"


def has_all(counts, wanted):
    """Whether the counts have each step as often as the other Counts."""
    return all([counts[one, other] >= many for one, other, many in wanted.steps])


def folded(counts, numbers):
    """The counts in which the stretches are folded, as often as numbers tells; None if they lack a step."""
    taken = Counts(counts.start, [(one, other, many) for stretch, many in numbers for one, other in steps_of(stretch)])
    if not has_all(counts, taken):
        return None
    put = []
    for at, (stretch, many) in enumerate(numbers):
        put.extend([(stretch[0], folded_name(at), many), (folded_name(at), stretch[-1], many)])
    return counts - taken + Counts(counts.start, put)


def can_fold(counts, numbers):
    """Whether some journey has the stretches at visits that are apart, as often as numbers tells."""
    made = folded(counts, numbers)
    return made is not None and is_had(made)


def unfolded(row, stretches):
    """The journey that has the stretches where the row has their new places, and the visits of each."""
    folds = {folded_name(at): stretch for at, stretch in enumerate(stretches)}
    found = {stretch: [] for stretch in stretches}
    path = []
    for name in row:
        if name in folds:
            # What the new place is reached from, and what follows it, are the ends of the stretch.
            found[folds[name]].append(len(path) - 1)
            path.extend(folds[name][1:-1])
        else:
            path.append(name)
    return (tuple(path), found)


def has_stretch(counts, stretch):
    """Whether some journey has the stretch."""
    need(counts)
    return stretch[0] in counts.places if len(stretch) == 1 else has_apart(counts, (stretch,))


def with_stretch(counts, stretch):
    """A journey that has the stretch; None if there is none."""
    if not has_stretch(counts, stretch):
        return None
    return some_journey(counts) if len(stretch) == 1 else with_apart(counts, (stretch,))[0]


def average(counts, stretch):
    """The FRACTION that tells at how many visits a journey has the stretch on the average."""
    need(counts)
    if len(stretch) > 1:
        return average_apart(counts, (stretch,))
    # All journeys come to a place equally often.
    return (counts.ins(stretch[0]) + (1 if stretch[0] == counts.start else 0), 1)


def begins_with(counts, stretch):
    """The FRACTION of the journeys that begin with the stretch."""
    need(counts)
    taken = Counts.of(stretch)
    if taken.start != counts.start or not has_all(counts, taken):
        return (0, 1)
    return lowest(how_many((counts - taken).begun(stretch[-1])), how_many(counts))


def ends_with(counts, stretch):
    """The FRACTION of the journeys that end with the stretch."""
    return begins_with(turned_counts(counts), turned(stretch))


def behind(counts, stretch):
    """For each place the FRACTION of the visits with the stretch directly behind which it comes, if above 0."""
    every, one = average(counts, stretch)
    parts = [(place, average(counts, (*stretch, place))) for place in counts.nexts(stretch[-1])]
    return tuple([(place, lowest(upper * one, lower * every)) for place, (upper, lower) in parts if upper > 0])


def has_apart(counts, stretches):
    """Whether some journey has all the stretches at visits that are apart."""
    need(counts)
    return can_fold(counts, numbered(stretches))


def with_apart(counts, stretches):
    """A journey, and visits apart at which it has the stretches; None if there is none."""
    if not has_apart(counts, stretches):
        return None
    rows, numbers = as_tuples(stretches), numbered(stretches)
    journey, found = unfolded(some_journey(folded(counts, numbers)), [stretch for stretch, _ in numbers])
    return (journey, tuple([found[stretch][rows[:at].count(stretch)] for at, stretch in enumerate(rows)]))


def average_apart(counts, stretches):
    """The FRACTION that tells how many tuples of visits, apart, a journey has on the average."""
    need(counts)
    numbers = numbered(stretches)
    made = folded(counts, numbers)
    if made is None:
        return (0, 1)
    ways = how_many(made)
    # The same stretch is folded to the same place, so its visits are counted in one order alone.
    for _, many in numbers:
        ways = ways * factorial(many)
    return lowest(ways, how_many(counts))


def most_apart(counts, stretch):
    """The greatest number of visits, apart, at which some journey has the stretch."""
    need(counts)
    least, beyond = 0, 1 + min([counts[one, other] for one, other in steps_of(stretch)])
    # Where more visits can be, fewer can be, so halving finds the greatest number.
    while beyond - least > 1:
        middle = (least + beyond) // 2
        if can_fold(counts, [(stretch, middle)]):
            least = middle
        else:
            beyond = middle
    return least
