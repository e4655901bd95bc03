"""What several test files need: checks of errors, and journeys that are found by following every step."""

import itertools
import math
import random
import unittest

from countedsteps.counts import Counts

GREAT = 10 ** 30
NOT_HAD = [
    Counts("a", (("b", "c", 1),)),
    Counts("x", (("a", "b", 1), ("b", "a", 1))),
    Counts("a", (("a", "b", 2),)),
    Counts("b", (("a", "b", 1),)),
    Counts("a", (("a", "b", 1), ("a", "c", 1))),
    Counts("a", (("a", "b", GREAT), ("b", "a", GREAT), ("c", "d", 1), ("d", "c", 1))),
]
# Things of all kinds of which no function that tells whether a thing is something says so.
ODD_THINGS = [
    0, 1, -1, True, False, None, "", "a", "ab", "a b", [], [()], [[]], ((),), (0,), (1, 2), (None,), ("a",),
    ("a", "b"), ["a", "b"], (("a",),), (("a", "a"),), (("a", "b", "c"),), (["a", "b"],), [("a", "b")], ("ab",),
    (("A", "b"),), (("a", 1),), (((("a", "b"),),),), Counts("a"), (Counts("a"),), ((Counts("a"), "b"),),
    ((((((((((((),),),),),),),),),),),), ("a", ("b", ["c"])), (True, ("a", "b")), ((("a", "b"), 1), ("a", "b")),
]


class Raising(unittest.TestCase):
    def check_raises(self, error, values, call):
        """That call raises error, with just these values."""
        with self.assertRaises(error) as caught:
            call()
        self.assertIs(caught.exception.__class__, error)
        self.assertEqual(vars(caught.exception), values)


def ratio(upper, lower):
    """The FRACTION of the two numbers."""
    common = math.gcd(upper, lower)
    return (upper // common, lower // common)


def followed(counts):
    """All journeys that have the counts, ascending, by following every step."""
    left = {(one, other): number for one, other, number in counts.steps}
    found = []

    def go_on(path):
        if len(path) == counts.total + 1:
            found.append(tuple(path))
        for one, other in sorted(left):
            if one == path[-1] and left[one, other]:
                left[one, other] -= 1
                go_on([*path, other])
                left[one, other] += 1

    go_on([counts.start])
    return found


def short_journeys(places, most):
    """All journeys over the places with at most so many steps."""
    for length in range(1, most + 2):
        for row in itertools.product(places, repeat=length):
            if all(one != other for one, other in zip(row, row[1:])):
                yield row


def walked(rng, places, steps):
    """A journey over the places with so many steps, by the random numbers."""
    row = [rng.choice(places)]
    while len(row) <= steps:
        row.append(rng.choice([place for place in places if place != row[-1]]))
    return tuple(row)


def small_counts(seed, many=25, least=5, most=9):
    """Counts that are had: all over three places with few steps, and many of up to so many steps over four."""
    met = {}
    for row in short_journeys("abc", 4):
        met[Counts.of(row).text] = Counts.of(row)
    rng = random.Random(seed)
    for _ in range(many):
        places = rng.sample(["a", "b", "ba", "c", "d"], rng.randint(2, 4))
        counts = Counts.of(walked(rng, places, rng.randint(least, most)))
        met[counts.text] = counts
    return list(met.values())


def any_counts(seed, many=300):
    """Counts that some journey has or not."""
    rng = random.Random(seed)
    for _ in range(many):
        pairs = [rng.sample("abcd", 2) for _ in range(rng.randint(0, 5))]
        yield Counts(rng.choice("abcd"), [(*pair, rng.randint(0, 2)) for pair in pairs])
