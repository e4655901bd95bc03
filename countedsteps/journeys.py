"""Places, steps and journeys, and what can be read off a single journey."""

from countedsteps.errors import Apart

LETTERS = "abcdefghijklmnopqrstuvwxyz"
LONGEST = 8


def is_place(thing):
    """Whether thing is a PLACE: a string of 1 to 8 letters a to z."""
    # Methods such as islower take letters of other alphabets, too.
    return (isinstance(thing, str) and 1 <= len(thing) <= LONGEST
            and all([letter in LETTERS for letter in thing]))


def is_step(thing):
    """Whether thing is a STEP: a pair of two unlike PLACEs."""
    return isinstance(thing, tuple) and len(thing) == 2 and is_journey(thing)


def is_journey(thing):
    """Whether thing is a JOURNEY: a tuple of PLACEs, neighbours always unlike."""
    if not isinstance(thing, tuple) or len(thing) == 0:
        return False
    # All members are looked at first: only strings are then compared.
    if not all([is_place(member) for member in thing]):
        return False
    return all([one != other for one, other in steps_of(thing)])


def steps_of(journey):
    """The tuple of the steps of the journey, in order."""
    return tuple(zip(journey, journey[1:]))


def visits(journey, place):
    """The tuple of the indexes at which the place is in the journey."""
    return tuple([at for at, here in enumerate(journey) if here == place])


def exits(journey, place):
    """The exit list of the place: where the journey goes from it, in order."""
    return tuple([other for one, other in steps_of(journey) if one == place])


def entries(journey, place):
    """From where the journey comes to the place, in order."""
    return tuple([one for one, other in steps_of(journey) if other == place])


def turned(journey):
    """The journey from its end to its beginning."""
    return tuple(journey[::-1])


def joined(one, other):
    """The journey one and, from its end on, the journey other."""
    if one[-1] != other[0]:
        raise Apart(one[-1], other[0])
    return tuple(one) + tuple(other[1:])


def seen(journey, names):
    """The journey with some places called by other names, without steps that stand still."""
    called = {place: name for place, name in names}
    row = [called.get(place, place) for place in journey]
    return tuple([row[0]] + [other for one, other in steps_of(row) if one != other])


def as_tuples(thing):
    """The thing with a tuple for each list, at any depth."""
    if isinstance(thing, (list, tuple)):
        return tuple([as_tuples(member) for member in thing])
    return thing
