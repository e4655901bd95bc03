"""Journeys told by their exit lists, of which some members are read and others not.

A page is a pair (row, left) for one place: row is the rest of its exit list, with "?" for each member that
is not read; left has, ascending, a pair (other, number) for each place that is still to stand at a "?".
Pages are a dict from each place of had Counts to its page; all journeys that fit them end at one place.
"""

from countedsteps.trees import exit_numbers, last_ways, orders, tree_sum

UNREAD = "?"


def blank_row(counts, place):
    """The row of the place of which nothing is read."""
    return (UNREAD,) * counts.outs(place)


def page_of(counts, place, row):
    """The page of the place; None if the row does not agree with the counts."""
    numbers = [(other, number - row.count(other)) for other, number in exit_numbers(counts, place)]
    unread = sum([number for _, number in numbers])
    if len(row) != counts.outs(place) or min([0] + [number for _, number in numbers]) < 0:
        return None
    # Else a place stands in the row to which no step leads.
    if unread != row.count(UNREAD):
        return None
    return (tuple(row), tuple([(other, number) for other, number in numbers if number > 0]))


def blank_pages(counts):
    """The pages of which nothing is read."""
    return {place: page_of(counts, place, blank_row(counts, place)) for place in counts.places}


def less(left, place):
    """The pairs with one less of the place, which is one of them."""
    pairs = [(other, number - 1 if other == place else number) for other, number in left]
    return tuple([(other, number) for other, number in pairs if number > 0])


def read_page(page, at, place):
    """The page on which the member with this index is the place; None if it cannot be read so."""
    row, left = page
    if row[at] == place:
        return page
    if row[at] != UNREAD or place not in [other for other, _ in left]:
        return None
    return (row[:at] + (place,) + row[at + 1:], less(left, place))


def page_ends(page):
    """The pairs (place, in how many ways the page can be read with this place as last member)."""
    row, left = page
    if not row:
        return []
    return last_ways(left) if row[-1] == UNREAD else [(row[-1], orders(left))]


def many_fits(end, pages):
    """How many journeys fit the pages."""
    weighted = [(place, other, ways) for place, page in pages.items() for other, ways in page_ends(page)]
    _, left = pages[end]
    return orders(left) * tree_sum(end, weighted)


def firsts(page):
    """The places that the first member of the page can be, ascending."""
    row, left = page
    if not row:
        return []
    return [other for other, _ in left] if row[0] == UNREAD else [row[0]]


def after_step(pages, here, place):
    """The pages when the first step out of here has led to the place, one of its firsts."""
    row, left = read_page(pages[here], 0, place)
    return {**pages, here: (row[1:], left)}


def fit_at(start, end, pages, number):
    """The journey with this number, from 0, of those that fit, ascending; there must be one."""
    path = [start]
    left = number
    while pages[path[-1]][0]:
        for place in firsts(pages[path[-1]]):
            then = after_step(pages, path[-1], place)
            many = many_fits(end, then)
            if left < many:
                break
            left -= many
        path.append(place)
        pages = then
    return tuple(path)


def fits_between(start, end, pages, row):
    """How many journeys that fit are less than the row, and how many of all are so or begin with it."""
    many = many_fits(end, pages)
    if row[0] != start:
        return (many, many) if start < row[0] else (0, 0)
    ahead = 0
    for here, place in zip(row, row[1:]):
        choices = firsts(pages[here])
        # A journey that is at its end is less than a row that goes on.
        if not choices:
            return (ahead + many, ahead + many)
        ahead = ahead + sum([many_fits(end, after_step(pages, here, other)) for other in choices if other < place])
        if place not in choices:
            return (ahead, ahead)
        pages = after_step(pages, here, place)
        many = many_fits(end, pages)
    return (ahead, ahead + many)
