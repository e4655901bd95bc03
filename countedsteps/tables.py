"""Tables of passings: their rows and columns, the pieces that they tie, and tables that are made.

A journey is followed from step to step here. A step from u to v has the name "u>v"; the journey comes to
its start by "->start" and goes on from its end by "end>-". A place whose table is told leads from one of
these names to another as the table tells, each other place from any to any.
"""

from countedsteps.counts import Counts
from countedsteps.stands import end_of
from countedsteps.ties import pieces_of

OUTSIDE = "-"
STEP_SIGN = ">"


def step_name(one, other):
    """The name of the step."""
    return f"{one}{STEP_SIGN}{other}"


def coming(counts, place):
    """The ascending tuple of the pairs (u, how often each journey comes to the place from u)."""
    begin = ((OUTSIDE, 1),) if counts.start == place else ()
    return begin + tuple([(one, counts[one, place]) for one in counts.befores(place)])


def leaving(counts, place):
    """The ascending tuple of the pairs (w, how often each journey goes on from the place to w)."""
    end = ((OUTSIDE, 1),) if end_of(counts) == place else ()
    return end + tuple([(other, counts[place, other]) for other in counts.nexts(place)])


def first_unlike(told, given):
    """The least name for which the numbers in the pairs are not the same on both sides; None if there is none."""
    more = {}
    for name, number in told:
        more[name] = more.get(name, 0) + number
    for name, number in given:
        more[name] = more.get(name, 0) - number
    unlike = [name for name in sorted(more) if more[name] != 0]
    return unlike[0] if unlike else None


def wrong_row(counts, place, table):
    """The least u whose row is not what each journey has; None if there is none."""
    return first_unlike(coming(counts, place), [(one, many) for (one, _), many in table])


def wrong_column(counts, place, table):
    """The least w whose column is not what each journey has; None if there is none."""
    return first_unlike(leaving(counts, place), [(other, many) for (_, other), many in table])


def joined_by(pieces, pairs):
    """The pieces, as sets, when those of each of the pairs are made one."""
    names = [name for piece in pieces for name in piece]
    return pieces_of(names, [(piece[0], name) for piece in pieces for name in piece] + list(pairs))


def passed_so(table):
    """The list of the pairs (u, w) of the table."""
    return [(one, other) for (one, other), _ in table]


def tied_steps(counts, tables):
    """The triples (name, other, many) that lead from step to step, as the tables tell."""
    told = {place: table for place, table in tables}
    made = []
    for place in counts.places:
        if place in told:
            made.extend([(step_name(one, place), step_name(place, other), many)
                         for (one, other), many in told[place]])
        else:
            made.extend([(step_name(one, place), place, many) for one, many in coming(counts, place)])
            made.extend([(place, step_name(place, other), many) for other, many in leaving(counts, place)])
    return made


def tied_counts(counts, tables):
    """Counts of the steps from step to step, by the journeys that have the tables."""
    return Counts(step_name(OUTSIDE, counts.start), tied_steps(counts, tables))


def untied(journey):
    """The journey that goes by the steps that this journey from step to step has."""
    steps = [name for name in journey if STEP_SIGN in name]
    return tuple([step.partition(STEP_SIGN)[2] for step in steps[:-1]])


def tied_pieces(counts, place, told):
    """The pieces of steps if the place itself ties none, and the other ones tie them as told."""
    ties = [(one, other) for one, other, _ in tied_steps(counts, (*told, (place, ())))]
    # If each journey begins and ends at the place, "-" stands for both outsides and is one piece. To leave
    # them apart makes no difference: what leads from the place to another piece leads back from it, too.
    names = [step_name(one, place) for one, _ in coming(counts, place)]
    names = names + [step_name(place, other) for other, _ in leaving(counts, place)]
    return pieces_of(sorted(set([name for tie in ties for name in tie] + names)), ties)


def marked(pairs, names, pieces):
    """The triples (u or w, its number, the index of its piece) for the pairs and the names of their steps."""
    at = {name: index for index, piece in enumerate(pieces) for name in piece}
    return [(place, number, at[name]) for (place, number), name in zip(pairs, names)]


def margins(counts, place, told):
    """The marked rows and columns of the place, and how many pieces there are."""
    pieces = tied_pieces(counts, place, told)
    rows, columns = coming(counts, place), leaving(counts, place)
    return (marked(rows, [step_name(one, place) for one, _ in rows], pieces),
            marked(columns, [step_name(place, other) for other, _ in columns], pieces),
            len(pieces))


def parted(marks, name):
    """The number of the name, the list of its piece, and the list of the pieces of all other ones."""
    own = [mark for mark in marks if mark[0] == name]
    return (sum([number for _, number, _ in own]),
            [piece for _, _, piece in own],
            [piece for place, _, piece in marks if place != name])


def shared(ones, others):
    """Whether a number is in both lists."""
    return any([one in others for one in ones])


def least_and_greatest(rows, columns, many, one, other):
    """How often the place is passed from one to other at the least and at the most."""
    row, own, rest = parted(rows, one)
    column, to, others = parted(columns, other)
    if row == 0 or column == 0:
        return (0, 0)
    every = sum([number for _, number, _ in rows])
    greatest, least = min(row, column), max(row + column - every, 0)
    # Were they passed so always, nothing would lead out of their pieces to a further one.
    if row == column and not shared(own + to, rest + others) and len(set(own + to)) < many:
        greatest = greatest - 1
    # Were they never passed so, the two pieces would remain apart.
    if row + column == every and not shared(own + others, to + rest):
        least = 1
    return (least, greatest)


def first_cells(rows, columns, pair, many):
    """Numbers for the pairs (u, w) that make these rows and columns, so many for the pair itself."""
    left, free = dict(rows), dict(columns)
    cells = {pair: many}
    left[pair[0]] = left.get(pair[0], 0) - many
    free[pair[1]] = free.get(pair[1], 0) - many
    others = [(one, other) for one in left for other in free if (one, other) != pair]
    # What shares the row or the column of the pair has the least choice, so it comes first.
    near = [cell for cell in others if cell[0] == pair[0] or cell[1] == pair[1]]
    for one, other in near + [cell for cell in others if cell not in near]:
        cells[one, other] = min(left[one], free[other])
        left[one] = left[one] - cells[one, other]
        free[other] = free[other] - cells[one, other]
    return cells


def found_swap(cells, pair, joined):
    """Two cells of unlike pieces that can change their columns without touching the pair."""
    at = {name: index for index, piece in enumerate(joined) for name in piece}
    used = [cell for cell in sorted(cells) if cells[cell] > 0]
    return [(cell, other) for cell in used for other in used
            if at[cell[0]] != at[other[0]]
            and pair not in (cell, other, (cell[0], other[1]), (other[0], cell[1]))][0]


def made_table(counts, place, pieces, pair, many):
    """A TABLE that some journey has, with so many for the pair, a number that can be."""
    cells = first_cells(coming(counts, place), leaving(counts, place), pair, many)
    joined = joined_by(pieces, [cell for cell in cells if cells[cell] > 0])
    while len(joined) > 1:
        (one, to), (other, there) = found_swap(cells, pair, joined)
        for cell, change in (((one, to), -1), ((other, there), -1), ((one, there), 1), ((other, to), 1)):
            cells[cell] = cells[cell] + change
        joined = joined_by(pieces, [cell for cell in cells if cells[cell] > 0])
    return tuple([(cell, cells[cell]) for cell in sorted(cells) if cells[cell] > 0])
