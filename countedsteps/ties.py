"""What hangs together by ties, and what leads to an end, for names of any kind."""


def pieces_of(names, ties):
    """The ascending list of the sets of names that hang together by the pairs in ties."""
    head = {}
    for name in names:
        head[name] = name
    for one, other in ties:
        old, new = head[one], head[other]
        if old != new:
            for name in names:
                if head[name] == old:
                    head[name] = new
    ascending = sorted(names)
    return sorted([tuple([name for name in ascending if head[name] == first])
                   for first in ascending if head[first] == first])


def ways_to(end, steps):
    """For each name but end from which the pairs in steps lead to end: the next name on a way there."""
    befores = {}
    for one, other in steps:
        befores.setdefault(other, []).append(one)
    onward = {}
    waiting = [end]
    while waiting:
        here = waiting.pop()
        for one in befores.get(here, []):
            if one != end and one not in onward:
                onward[one] = here
                waiting.append(one)
    return onward


def led_to(end, steps):
    """The set of the names from which the pairs in steps lead to end, end among them."""
    return tuple(sorted([end, *ways_to(end, steps)]))
