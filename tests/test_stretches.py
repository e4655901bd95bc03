"""Points 1 (e), 2, 3 and 13: stretches."""

import itertools
import math
import random
import unittest

from countedsteps.counts import Counts
from countedsteps.errors import NoJourney
from countedsteps.ranks import all_journeys
from countedsteps.stretches import (
    average, average_apart, begins_with, behind, ends_with, has_apart, has_stretch, most_apart, visits_of, with_apart,
    with_stretch,
)
from helping import GREAT, NOT_HAD, Raising, followed, ratio, short_journeys, small_counts

WALK = Counts.of(("s", "a", "s", "b", "s"))
MORE = Counts("s", (("s", "a", 3), ("a", "s", 2), ("s", "b", 1), ("b", "s", 1)))
OF_ONE = [has_stretch, with_stretch, average, begins_with, ends_with, behind]
OF_SEVERAL = [has_apart, with_apart, average_apart]


def found(journey, stretch):
    """The visits at which the journey has the stretch, looked for at each of them."""
    return [at for at in range(len(journey)) if journey[at:at + len(stretch)] == stretch]


def apart(journey, stretches):
    """All tuples of visits, apart, at which the journey has the stretches."""
    tuples = []
    for visits in itertools.product(*[found(journey, stretch) for stretch in stretches]):
        steps = [at + k for at, stretch in zip(visits, stretches) for k in range(len(stretch) - 1)]
        if len(set(steps)) == len(steps):
            tuples.append(visits)
    return tuples


def some_stretches(rng, counts, journeys, many):
    """Stretches that come in the journeys, and such as may come."""
    for _ in range(many):
        row = rng.choice(journeys)
        first, length = rng.randrange(len(row)), rng.randint(1, 5)
        yield row[first:first + length]
        row = [rng.choice([*counts.places, "z"])]
        for _ in range(rng.randint(0, 3)):
            row.append(rng.choice([place for place in [*counts.places, "y", "z"] if place != row[-1]]))
        yield tuple(row)


class DocumentExamples(Raising):
    def test_whether(self):
        self.assertEqual(visits_of(("a", "b", "a", "b", "a"), ("a", "b", "a")), (0, 2))
        self.assertIs(has_stretch(WALK, ("a", "s", "b")), True)
        self.assertIs(has_stretch(WALK, ("a", "s", "a")), False)
        self.assertEqual(with_stretch(WALK, ("b", "s", "a")), ("s", "b", "s", "a", "s"))
        self.assertIsNone(with_stretch(WALK, ("a", "b")))

    def test_averages(self):
        self.assertEqual([average(WALK, row) for row in [("a", "s", "b"), ("s",), ("x",)]], [(1, 2), (3, 1), (0, 1)])
        self.assertEqual((begins_with(WALK, ("s", "a")), ends_with(WALK, ("b", "s")), ends_with(WALK, ("a",))),
                         ((1, 2), (1, 2), (0, 1)))
        self.assertEqual((behind(WALK, ("s",)), behind(WALK, ("a", "s")), behind(WALK, ("a", "b"))),
                         ((("a", (1, 3)), ("b", (1, 3))), (("b", (1, 2)),), ()))

    def test_apart(self):
        self.assertEqual(average(MORE, ("a", "s", "a")), (4, 3))
        self.assertEqual([most_apart(MORE, row) for row in [("a", "s", "a"), ("s", "a"), ("b", "a")]], [2, 3, 0])
        self.assertEqual(average_apart(MORE, (("a", "s", "a"), ("a", "s", "a"))), (2, 3))
        self.assertEqual(average_apart(MORE, ()), (1, 1))
        self.assertIs(has_apart(MORE, (("s", "b", "s"), ("a", "s", "a"))), True)
        self.assertIs(has_apart(WALK, (("a", "s", "b"), ("s", "b"))), False)
        self.assertEqual(with_apart(WALK, (("a", "s", "b"), ("b", "s"))), (("s", "a", "s", "b", "s"), (1, 3)))

    def test_errors(self):
        self.check_raises(NoJourney, {}, lambda: average(Counts("x", WALK.steps), ("s",)))

    def test_what_is_said_of_more(self):
        self.assertEqual([len(visits_of(journey, ("a", "s", "a"))) for journey in all_journeys(MORE)], [1, 1, 2])


class AgainstAllJourneys(unittest.TestCase):
    def test_one_stretch(self):
        rng = random.Random(131)
        for counts in small_counts(132, many=60):
            journeys = followed(counts)
            for stretch in some_stretches(rng, counts, journeys, 8):
                self.check_one(counts, journeys, stretch)

    def check_one(self, counts, journeys, stretch):
        those = [journey for journey in journeys if found(journey, stretch)]
        every = sum(len(found(journey, stretch)) for journey in journeys)
        self.assertIs(has_stretch(counts, stretch), those != [])
        shown = with_stretch(counts, stretch)
        self.assertIn(shown, those if those else [None])
        self.assertEqual(average(counts, stretch), ratio(every, len(journeys)))
        begun = [journey for journey in journeys if journey[:len(stretch)] == stretch]
        ended = [journey for journey in journeys if journey[-len(stretch):] == stretch]
        self.assertEqual(begins_with(counts, stretch), ratio(len(begun), len(journeys)))
        self.assertEqual(ends_with(counts, stretch), ratio(len(ended), len(journeys)))
        follow = {}
        for journey in journeys:
            for at in found(journey, stretch):
                for place in journey[at + len(stretch):at + len(stretch) + 1]:
                    follow[place] = follow.get(place, 0) + 1
        self.assertEqual(behind(counts, stretch),
                         tuple((place, ratio(follow[place], every)) for place in sorted(follow)))

    def test_several_stretches(self):
        rng = random.Random(133)
        for counts in small_counts(134, many=60):
            journeys = followed(counts)
            longer = [row for row in some_stretches(rng, counts, journeys, 6) if len(row) > 1]
            for _ in range(6 if longer else 0):
                self.check_several(counts, journeys, tuple(rng.choice(longer) for _ in range(rng.randint(0, 3))))

    def check_several(self, counts, journeys, stretches):
        tuples = {journey: apart(journey, stretches) for journey in journeys}
        many = sum(map(len, tuples.values()))
        self.assertIs(has_apart(counts, stretches), many > 0)
        self.assertEqual(average_apart(counts, stretches), ratio(many, len(journeys)))
        shown = with_apart(counts, stretches)
        if many == 0:
            self.assertIsNone(shown)
        else:
            self.assertIn(shown[1], tuples[shown[0]])

    def test_most_apart(self):
        rng = random.Random(135)
        for counts in small_counts(136, many=30):
            journeys = followed(counts)
            for stretch in some_stretches(rng, counts, journeys, 4):
                if len(stretch) > 1:
                    most = max(number for number in range(4) for journey in journeys
                               if apart(journey, (stretch,) * number))
                    # A greater number than 3 is not looked for by hand.
                    self.assertEqual(min(most_apart(counts, stretch), 3), most)

    def test_visits(self):
        for journey in short_journeys("ab", 6):
            for stretch in short_journeys("ab", 3):
                self.assertEqual(visits_of(journey, stretch), tuple(found(journey, stretch)))


class Edges(Raising):
    def test_without_steps(self):
        counts = Counts("m")
        self.assertIs(has_stretch(counts, ("m",)), True)
        self.assertEqual((with_stretch(counts, ("m",)), average(counts, ("m",))), (("m",), (1, 1)))
        self.assertEqual((begins_with(counts, ("m",)), ends_with(counts, ("m",)), behind(counts, ("m",))),
                         ((1, 1), (1, 1), ()))
        self.assertEqual([call(counts, ("m", "a")) for call in OF_ONE], [False, None, (0, 1), (0, 1), (0, 1), ()])

    def test_places_that_do_not_occur(self):
        for stretch in [("x",), ("x", "s"), ("s", "x"), ("a", "s", "x", "s", "a")]:
            self.assertEqual([call(WALK, stretch) for call in OF_ONE], [False, None, (0, 1), (0, 1), (0, 1), ()])
            self.assertEqual(visits_of(("s", "a", "s"), stretch), ())
        self.assertEqual(most_apart(WALK, ("x", "s")), 0)

    def test_no_stretches(self):
        self.assertIs(has_apart(WALK, ()), True)
        journey, visits = with_apart(WALK, ())
        self.assertEqual((journey in followed(WALK), visits), (True, ()))
        self.assertEqual(average_apart(WALK, ()), (1, 1))

    def test_a_stretch_several_times(self):
        there = Counts.of(("a", "b", "a", "b", "a", "b"))
        for number, ways in [(1, 3), (2, 6), (3, 6)]:
            self.assertEqual(average_apart(there, (("a", "b"),) * number), (ways, 1))
            journey, visits = with_apart(there, (("a", "b"),) * number)
            self.assertEqual(len(set(visits)), number)
            self.assertLessEqual(set(visits), {0, 2, 4})
        self.assertIs(has_apart(there, (("a", "b"),) * 4), False)
        self.assertEqual((average_apart(there, (("a", "b"),) * 4), with_apart(there, (("a", "b"),) * 4)), ((0, 1), None))

    def test_unlike_stretches_keep_their_order(self):
        shown = with_apart(WALK, (("b", "s"), ("a", "s", "b"), ("s", "a")))
        self.assertEqual(shown, (("s", "a", "s", "b", "s"), (3, 1, 0)))

    def test_stretches_that_overlap_themselves(self):
        there = Counts.of(("a", "b", "a", "b", "a", "b", "a"))
        self.assertEqual((average(there, ("a", "b", "a")), most_apart(there, ("a", "b", "a"))), ((3, 1), 3))
        self.assertEqual((average(there, ("a", "b", "a", "b")), most_apart(there, ("a", "b", "a", "b"))), ((2, 1), 1))

    def test_longer_than_the_journeys(self):
        stretch = ("s", "a", "s", "b", "s", "a")
        self.assertEqual([call(WALK, stretch) for call in OF_ONE], [False, None, (0, 1), (0, 1), (0, 1), ()])


class Errors(Raising):
    def test_no_journey_ahead_of_all_else(self):
        for counts in NOT_HAD:
            for call in OF_ONE:
                self.check_raises(NoJourney, {}, lambda: call(counts, ("a",)))
                self.check_raises(NoJourney, {}, lambda: call(counts, ("x", "b")))
            for call in OF_SEVERAL:
                self.check_raises(NoJourney, {}, lambda: call(counts, ()))
                self.check_raises(NoJourney, {}, lambda: call(counts, (("a", "b"),)))
            self.check_raises(NoJourney, {}, lambda: most_apart(counts, ("a", "b")))


class HowArgumentsCome(unittest.TestCase):
    def test_lists_for_tuples(self):
        stretch, stretches = ["a", "s", "b"], [["a", "s", "b"], ["b", "s"]]
        self.assertEqual(visits_of(["s", "a", "s", "b", "s"], stretch), (1,))
        for call in [*OF_ONE, most_apart]:
            self.assertEqual(call(WALK, stretch), call(WALK, tuple(stretch)))
        for call in OF_SEVERAL:
            self.assertEqual(call(WALK, stretches), call(WALK, (("a", "s", "b"), ("b", "s"))))
            self.assertEqual(call(MORE, [["a", "s"], ("a", "s")]), call(MORE, (("a", "s"), ("a", "s"))))
        self.assertEqual((stretch, stretches), (["a", "s", "b"], [["a", "s", "b"], ["b", "s"]]))

    def test_by_name(self):
        for call in [*OF_ONE, most_apart]:
            self.assertEqual(call(stretch=("a", "s"), counts=WALK), call(WALK, ("a", "s")))
        for call in OF_SEVERAL:
            self.assertEqual(call(stretches=(("a", "s"),), counts=WALK), call(WALK, (("a", "s"),)))
        self.assertEqual(visits_of(stretch=("a",), journey=("s", "a")), (1,))

    def test_kinds_of_values(self):
        for value in [with_stretch(WALK, ["s"]), with_stretch(WALK, ["s", "a"]), with_apart(WALK, [["s", "a"]]),
                      *with_apart(WALK, [["s", "a"]]), behind(WALK, ["s"]), *behind(WALK, ["s"]),
                      average(WALK, ["s"]), average(WALK, ["s", "a"]), visits_of(["a"], ["a"])]:
            self.assertIs(value.__class__, tuple)


class AtTheBounds(unittest.TestCase):
    def test_sixty_steps(self):
        counts = Counts("a", [(*pair, 1) for pair in itertools.permutations("abcdefgh", 2)]
                        + [("h", "a", 2), ("a", "h", 2)])
        self.assertEqual(counts.total, 60)
        shares = [share for _, share in behind(counts, ("a", "b", "c"))]
        self.assertEqual(sum(upper * math.lcm(*[low for _, low in shares]) // lower for upper, lower in shares),
                         math.lcm(*[low for _, low in shares]))
        pairs = [(one, other) for one, other, many in counts.steps for _ in range(many)]
        self.assertEqual(average_apart(counts, pairs), (math.factorial(3) ** 2, 1))
        journey, visits = with_apart(counts, pairs)
        self.assertEqual(sorted(visits), list(range(60)))
        self.assertEqual([journey[at:at + 2] for at in visits], pairs)
        begins = [begins_with(counts, ("a", other)) for other in counts.nexts("a")]
        self.assertEqual(begins, [ratio(counts["a", other], counts.outs("a")) for other in counts.nexts("a")])

    def test_a_journey_of_sixty_one_places(self):
        journey = ("a", "b", "c") * 20 + ("a",)
        self.assertEqual(visits_of(journey, ("c", "a")), tuple(range(2, 60, 3)))
        counts = Counts.of(journey)
        self.assertEqual((average(counts, journey), most_apart(counts, journey)), ((1, 1), 1))
        self.assertEqual((average(counts, journey[1:7]), most_apart(counts, journey[1:7])), ((19, 1), 10))

    def test_great_numbers(self):
        counts = Counts("a", [(*pair, GREAT) for pair in itertools.permutations("abcdefgh", 2)])
        self.assertEqual(most_apart(counts, ("a", "b")), GREAT)
        self.assertEqual(most_apart(counts, ("a", "b", "a", "b", "c")), GREAT // 2)
        self.assertIs(has_apart(counts, [("a", "b", "c", "d", "a")] * 500), True)
        there = Counts("a", (("a", "b", GREAT), ("b", "a", GREAT), ("b", "c", 1), ("c", "b", 1)))
        self.assertEqual((most_apart(there, ("a", "b", "a")), most_apart(there, ("b", "a", "b"))), (GREAT - 1, GREAT - 1))
        self.assertIs(has_stretch(there, ("b", "c", "b", "c")), False)
        self.assertIs(has_stretch(there, ("a", "b", "c", "b")), True)


if __name__ == "__main__":
    unittest.main()
