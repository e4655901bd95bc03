"""How often journeys pass a place from here to there."""

from countedsteps.errors import BadTable, NoNumber
from countedsteps.exact import is_number
from countedsteps.journeys import is_place
from countedsteps.stands import end_of, is_had, need, some_journey
from countedsteps.tables import (
    OUTSIDE, coming, joined_by, least_and_greatest, leaving, made_table, margins, passed_so, tied_counts, untied,
    wrong_column, wrong_row,
)
from countedsteps.ties import pieces_of


def passings(journey, place):
    """The TABLE of the journey at the place."""
    row = (OUTSIDE, *journey, OUTSIDE)
    many = {}
    for one, here, other in zip(row, row[1:], row[2:]):
        if here == place:
            many[one, other] = many.get((one, other), 0) + 1
    return tuple([(pair, many[pair]) for pair in sorted(many)])


def is_name(thing):
    """Whether thing is a PLACE or "-"."""
    return isinstance(thing, str) and (thing == OUTSIDE or is_place(thing))


def is_entry(thing):
    """Whether thing is a pair ((u, w), many) of a TABLE."""
    if not isinstance(thing, tuple) or len(thing) != 2:
        return False
    pair, many = thing
    if not isinstance(pair, tuple) or len(pair) != 2 or not all([is_name(name) for name in pair]):
        return False
    return is_number(many) and many >= 1


def is_table(thing):
    """Whether thing is a TABLE."""
    if not isinstance(thing, tuple) or not all([is_entry(member) for member in thing]):
        return False
    pairs = passed_so(thing)
    return all([one < other for one, other in zip(pairs, pairs[1:])])


def check_place(counts, place):
    """Raises NoJourney, then NoPlace."""
    need(counts)
    counts.check(place)


def arrivals(counts, place):
    """The ascending tuple of the pairs (u, how often each journey comes to the place from u)."""
    check_place(counts, place)
    return coming(counts, place)


def departures(counts, place):
    """The ascending tuple of the pairs (w, how often each journey goes on from the place to w)."""
    check_place(counts, place)
    return leaving(counts, place)


def pieces_without(counts, place):
    """The ascending list of the pieces that hang together without the place."""
    check_place(counts, place)
    ties = [(one, other) for one, other, _ in counts.steps if place not in (one, other)]
    # Had counts have no place without steps but a start that is alone.
    names = [other for other in counts.places if other != place]
    outside = [OUTSIDE] if place in (counts.start, end_of(counts)) else []
    return pieces_of(outside + names, ties)


def why_no_table(counts, place, table):
    """None if some journey has this TABLE at the place, otherwise the first reason against it."""
    pieces = pieces_without(counts, place)
    row, column = wrong_row(counts, place, table), wrong_column(counts, place, table)
    if row is not None:
        return ("row", row)
    if column is not None:
        return ("column", column)
    joined = joined_by(pieces, passed_so(table))
    rest = sorted([name for piece in joined[1:] for name in piece])
    return ("apart", tuple(rest)) if rest else None


def can_pass(counts, place, table):
    """Whether some journey has this TABLE at the place."""
    return why_no_table(counts, place, table) is None


def pass_journey(counts, place, table):
    """A journey that has this TABLE at the place; None if there is none."""
    if not can_pass(counts, place, table):
        return None
    return untied(some_journey(tied_counts(counts, ((place, table),))))


def check_told(counts, place, told):
    """Raises NoJourney, NoPlace for the place, NoPlace for one of told, and BadTable."""
    check_place(counts, place)
    if not can_pass_all(counts, told):
        raise BadTable()


def pass_range(counts, one, place, other, *, told=()):
    """How often a journey passes the place from one to other at the least and at the most."""
    check_told(counts, place, told)
    rows, columns, many = margins(counts, place, told)
    return least_and_greatest(rows, columns, many, one, other)


def passed(counts, place, told, at):
    """The set of the pairs (u, w) for which the range of their numbers has not 0 at this index."""
    check_told(counts, place, told)
    rows, columns, many = margins(counts, place, told)
    # Rows and columns ascend, so the pairs do.
    return tuple([(one, other) for one, _, _ in rows for other, _, _ in columns
                  if least_and_greatest(rows, columns, many, one, other)[at] > 0])


def must_pass(counts, place, *, told=()):
    """The set of the pairs (u, w) with which each journey passes the place."""
    return passed(counts, place, told, 0)


def may_pass(counts, place, *, told=()):
    """The set of the pairs (u, w) with which some journey passes the place."""
    return passed(counts, place, told, 1)


def journey_passing(counts, one, place, other, many):
    """A journey that passes the place from one to other just so often."""
    least, greatest = pass_range(counts, one, place, other)
    if many < least or many > greatest:
        raise NoNumber(many)
    table = made_table(counts, place, pieces_without(counts, place), (one, other), many)
    return pass_journey(counts, place, table)


def range_journeys(counts, one, place, other):
    """A pair of journeys that pass the place from one to other as seldom, and as often, as can be."""
    least, greatest = pass_range(counts, one, place, other)
    return (journey_passing(counts, one, place, other, least), journey_passing(counts, one, place, other, greatest))


def can_pass_all(counts, tables):
    """Whether some journey has all these TABLEs, each at its place."""
    need(counts)
    for place, _ in tables:
        counts.check(place)
    for place, table in tables:
        if wrong_row(counts, place, table) is not None or wrong_column(counts, place, table) is not None:
            return False
    return is_had(tied_counts(counts, tables))


def pass_all_journey(counts, tables):
    """A journey that has all these TABLEs, each at its place; None if there is none."""
    return untied(some_journey(tied_counts(counts, tables))) if can_pass_all(counts, tables) else None
