"""How many journeys have the counts, and the trees of their last steps."""

from countedsteps.errors import NoTree
from countedsteps.exact import arrangements, determinant
from countedsteps.journeys import as_tuples, exits, is_step
from countedsteps.stands import end_of, is_had
from countedsteps.ties import led_to


def tree_sum(end, weighted):
    """For all trees towards the end, the products of the weights of their steps, added up.

    weighted has triples (one, other, weight); those out of the end make no difference.
    """
    places = sorted(set([place for one, other, _ in weighted for place in (one, other) if place != end]))
    weights = {(one, other): weight for one, other, weight in weighted}
    outs = {}
    for one, _, weight in weighted:
        outs[one] = outs.get(one, 0) + weight
    rows = [[outs.get(one, 0) if one == other else -weights.get((one, other), 0) for other in places]
            for one in places]
    return determinant(rows)


def exit_numbers(counts, place):
    """The tuple of the pairs (other, number) of the steps out of the place, ascending."""
    return tuple([(other, counts[place, other]) for other in counts.nexts(place)])


def orders(numbers):
    """How many orders there are of what the pairs (place, number) tell."""
    return arrangements([number for _, number in numbers])


def last_ways(numbers):
    """For each place of the pairs (place, number): in how many orders it is the last."""
    ways, length = orders(numbers), sum([number for _, number in numbers])
    return [(place, ways * number // length) for place, number in numbers]


def how_many(counts):
    """How many journeys have the counts; 0 if none has."""
    if not is_had(counts):
        return 0
    end = end_of(counts)
    weighted = [(place, other, ways) for place in counts.places
                for other, ways in last_ways(exit_numbers(counts, place))]
    return orders(exit_numbers(counts, end)) * tree_sum(end, weighted)


def last_steps(journey):
    """The set of the steps with which each place but the end is left for the last time."""
    return tuple([(place, row[-1]) for place, row in exit_lists(journey) if place != journey[-1]])


def is_tree(counts, thing):
    """Whether thing is a tree of the counts."""
    end = end_of(counts)
    if not isinstance(thing, tuple) or not all([is_step(member) and member in counts for member in thing]):
        return False
    left = tuple([one for one, _ in thing])
    return left == tuple([place for place in counts.places if place != end]) and led_to(end, thing) == counts.places


def comes_to(tree, here, goal):
    """Whether one comes from here to the goal by the steps of the tree, or of a part of it."""
    onward = {one: other for one, other in tree}
    while here in onward and here != goal:
        here = onward[here]
    return here == goal


def trees(counts):
    """The ascending list of all trees."""
    end = end_of(counts)
    places, steps = counts.places, [(one, other) for one, other, _ in counts.steps]
    grown = [()]
    for place in places:
        outs = [step for step in steps if step[0] == place]
        later = [step for step in steps if step[0] > place]
        if place != end:
            # What cannot become a tree is left at once, so there are never more than there are trees.
            grown = [(*tree, step) for tree in grown for step in outs
                     if len(outs) == 1 or led_to(end, [*tree, step, *later]) == places]
    return grown


def how_many_trees(counts):
    """How many trees there are."""
    return tree_sum(end_of(counts), [(one, other, 1) for one, other, _ in counts.steps])


def with_tree(counts, tree):
    """How many of the journeys have just these last steps."""
    end = end_of(counts)
    if not is_tree(counts, as_tuples(tree)):
        raise NoTree()
    ways = orders(exit_numbers(counts, end))
    for one, other in tree:
        ways = ways * dict(last_ways(exit_numbers(counts, one)))[other]
    return ways


def exit_lists(journey):
    """The set of the pairs (place, its exit list) for each place that the journey leaves."""
    return tuple([(place, exits(journey, place)) for place in sorted(set(journey[:-1]))])


def by_lists(start, lists):
    """The journey that goes by these exit lists; None if it does not use them up."""
    rows = {place: row for place, row in lists}
    used = {}
    path = [start]
    while used.get(path[-1], 0) < len(rows.get(path[-1], ())):
        here = path[-1]
        path.append(rows[here][used.get(here, 0)])
        used[here] = used.get(here, 0) + 1
    return tuple(path) if len(path) == 1 + sum([len(row) for _, row in lists]) else None
