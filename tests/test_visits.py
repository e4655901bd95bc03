"""Points 1 (g), 2, 3 and 15: first and last visits."""

import itertools
import unittest

from countedsteps.counts import Counts
from countedsteps.errors import NoJourney, NoPlace
from countedsteps.journeys import is_journey, turned
from countedsteps.visits import (
    always_left, always_met, is_path_ahead, journey_ahead, left_ahead, left_order, met_ahead, met_order, path_ahead,
    sure_beginning, sure_end,
)
from helping import GREAT, NOT_HAD, ODD_THINGS, Raising, followed, short_journeys, small_counts

TWO = Counts.of(("a", "b", "a", "c", "a"))
ONCE = Counts.of(("s", "w", "z", "v", "z", "s", "e"))
MORE = Counts.of(("x", "a", "b", "a", "c", "a", "y"))
OF_TWO = [left_ahead, met_ahead, path_ahead, journey_ahead]
OF_ALL = [always_left, always_met, sure_beginning, sure_end]


def last(journey, place):
    """The last visit of the place."""
    return len(journey) - 1 - journey[::-1].index(place)


def word(answers):
    """What the list of answers, one for each journey, comes to."""
    return "always" if all(answers) else "sometimes" if any(answers) else "never"


def shows(counts, place, other, path):
    """Whether the path shows that the place can be left ahead of the other one, word by word."""
    left = {(one, to): many for one, to, many in counts.steps}
    steps = list(zip(path, path[1:]))
    if path[0] != other or place in path or len(set(path)) < len(path) or not set(steps) <= set(left):
        return False
    for step in steps:
        left[step] -= 1
    met, before = {other}, 0
    while len(met) > before:
        before = len(met)
        for step in left:
            if left[step] and met & set(step):
                met |= set(step)
    return place in met


def paths(counts, end):
    """All tuples of unlike places, up to four, that end at the end."""
    for length in range(1, 5):
        for row in itertools.permutations(counts.places, length):
            if row[-1] == end:
                yield row


class DocumentExamples(Raising):
    def test_ahead(self):
        self.assertEqual([left_ahead(TWO, *pair) for pair in ["bc", "ba", "ab"]], ["sometimes", "always", "never"])
        self.assertEqual((met_ahead(TWO, "a", "c"), met_ahead(TWO, "c", "b")), ("always", "sometimes"))
        self.assertIs(is_path_ahead(TWO, "b", "c", ("c", "a")), True)
        self.assertEqual((path_ahead(TWO, "b", "c"), journey_ahead(TWO, "b", "c")),
                         (("c", "a"), ("a", "b", "a", "c", "a")))
        self.assertEqual((journey_ahead(TWO, "c", "b", first=True), journey_ahead(TWO, "a", "b")),
                         (("a", "c", "a", "b", "a"), None))

    def test_orders(self):
        self.assertEqual((always_left(TWO), always_met(TWO)), ([("b", "a"), ("c", "a")], [("a", "b"), ("a", "c")]))
        self.assertEqual(left_order(("a", "b", "c", "b")), ("a", "c", "b"))
        self.assertEqual(met_order(("a", "b", "c", "b")), ("a", "b", "c"))

    def test_a_step_that_is_counted_once(self):
        self.assertEqual((left_ahead(ONCE, "v", "w"), left_ahead(ONCE, "w", "v")), ("never", "always"))
        self.assertIs(is_path_ahead(ONCE, "v", "w", ("w", "z", "s", "e")), False)
        self.assertEqual(path_ahead(ONCE, "w", "v"), ("v", "z", "s", "e"))

    def test_sure(self):
        self.assertEqual(sure_beginning(ONCE), ("s", "w", "z", "v", "z", "s", "e"))
        self.assertEqual((sure_beginning(TWO), sure_beginning(MORE), sure_end(MORE)), (("a",), ("x", "a"), ("a", "y")))

    def test_errors(self):
        self.check_raises(NoPlace, {"place": "z"}, lambda: left_ahead(TWO, "b", "z"))


class AgainstAllJourneys(unittest.TestCase):
    def test_ahead(self):
        for counts in small_counts(151, many=100):
            journeys = followed(counts)
            pairs = list(itertools.permutations(counts.places, 2))
            left = {(one, other): word([last(row, one) < last(row, other) for row in journeys]) for one, other in pairs}
            met = {(one, other): word([row.index(one) < row.index(other) for row in journeys]) for one, other in pairs}
            for one, other in pairs:
                self.assertEqual(left_ahead(counts, one, other), left[one, other])
                self.assertEqual(met_ahead(counts, one, other), met[one, other])
                self.check_shown(counts, journeys, one, other, left[one, other], met[one, other])
            self.assertEqual(always_left(counts), [pair for pair in pairs if left[pair] == "always"])
            self.assertEqual(always_met(counts), [pair for pair in pairs if met[pair] == "always"])

    def check_shown(self, counts, journeys, one, other, left, met):
        journey = journey_ahead(counts, one, other)
        first = journey_ahead(counts, one, other, first=True)
        path = path_ahead(counts, one, other)
        if left == "never":
            self.assertEqual((path, journey), (None, None))
        else:
            self.assertIs(is_path_ahead(counts, one, other, path), True)
            self.assertIn(journey, journeys)
            self.assertLess(last(journey, one), last(journey, other))
        if met == "never":
            self.assertIsNone(first)
        else:
            self.assertIn(first, journeys)
            self.assertLess(first.index(one), first.index(other))

    def test_paths(self):
        for counts in small_counts(152, many=20):
            end = followed(counts)[0][-1]
            for one, other in itertools.permutations(counts.places, 2):
                shown = [path for path in paths(counts, end) if shows(counts, one, other, path)]
                for path in paths(counts, end):
                    self.assertIs(is_path_ahead(counts, one, other, path), path in shown)
                self.assertIn(path_ahead(counts, one, other), shown if shown else [None])

    def test_orders(self):
        for journey in short_journeys("abc", 5):
            places = sorted(set(journey))
            self.assertEqual(left_order(journey), tuple(sorted(places, key=lambda place: last(journey, place))))
            self.assertEqual(met_order(journey), tuple(sorted(places, key=journey.index)))

    def test_sure(self):
        for counts in small_counts(153, many=100):
            for journeys, sure in [(followed(counts), sure_beginning(counts)),
                                   ([turned(row) for row in followed(counts)], turned(sure_end(counts)))]:
                shared = [length for length in range(1, counts.total + 2)
                          if len({row[:length] for row in journeys}) == 1]
                self.assertEqual(sure, journeys[0][:shared[-1]])


class Edges(Raising):
    def test_without_steps(self):
        counts = Counts("m")
        self.assertEqual((always_left(counts), always_met(counts)), ([], []))
        self.assertEqual((sure_beginning(counts), sure_end(counts)), (("m",), ("m",)))
        self.assertEqual((left_order(("m",)), met_order(("m",))), (("m",), ("m",)))

    def test_the_end_and_the_start(self):
        # Without steps the path is that of the other place alone, if it is the end.
        self.assertEqual(path_ahead(TWO, "b", "a"), ("a",))
        self.assertIs(is_path_ahead(TWO, "b", "a", ("a",)), True)
        road = Counts.of(("a", "b", "c", "b", "d"))
        self.assertEqual([left_ahead(road, "d", other) for other in "abc"], ["never"] * 3)
        self.assertEqual([met_ahead(road, "a", other) for other in "bcd"], ["always"] * 3)
        self.assertEqual(sure_beginning(road), sure_end(road))

    def test_what_is_no_path(self):
        for thing in [*ODD_THINGS, ["c", "a"], ("c",), ("a",), ("c", "a", "c"), ("c", "b", "a"), ("c", "a", "b"),
                      ("b", "a"), ("c", "A"), ("c", "x", "a"), ("c", ["a"]), ("c", "a", None), ("c", "c", "a"), TWO]:
            self.assertIs(is_path_ahead(TWO, "b", "c", thing), False)
        self.assertIs(is_path_ahead(TWO, "a", "c", ("c", "a")), False)
        twice = Counts("a", [(*pair, 9) for pair in itertools.permutations("abcd", 2)])
        self.assertIs(is_path_ahead(twice, "c", "b", ("b", "d", "a")), True)
        for thing in [("b", "d", "b", "a"), ("b", "a", "b", "a"), ("b", "a", "d", "a"), ("b", "c", "a")]:
            self.assertIs(is_path_ahead(twice, "c", "b", thing), False)

    def test_pieces_that_the_path_comes_by(self):
        # The loops at q and at the end do not hang together with b and c when the path is taken out.
        counts = Counts.of(("a", "b", "c", "q", "r", "q", "e", "f", "e"))
        self.assertEqual(journey_ahead(counts, "b", "c"), ("a", "b", "c", "q", "r", "q", "e", "f", "e"))
        back = Counts.of(("e", "f", "e", "q", "r", "q", "c", "b", "a"))
        self.assertEqual(journey_ahead(back, "c", "b", first=True), ("e", "f", "e", "q", "r", "q", "c", "b", "a"))

    def test_first(self):
        self.assertIsNone(journey_ahead(TWO, "c", "a", first=True))
        self.assertEqual(journey_ahead(TWO, "c", "b", first=False), ("a", "c", "a", "b", "a"))
        with self.assertRaises(TypeError):
            journey_ahead(TWO, "c", "b", True)


class Errors(Raising):
    def test_no_journey_ahead_of_all_else(self):
        for counts in NOT_HAD:
            for call in OF_ALL:
                self.check_raises(NoJourney, {}, lambda: call(counts))
            for call in OF_TWO:
                self.check_raises(NoJourney, {}, lambda: call(counts, "x", "y"))
            self.check_raises(NoJourney, {}, lambda: journey_ahead(counts, "x", "y", first=True))
            self.check_raises(NoJourney, {}, lambda: is_path_ahead(counts, "x", "y", None))

    def test_no_place_for_the_first(self):
        calls = [*OF_TWO, lambda counts, one, other: journey_ahead(counts, one, other, first=True),
                 lambda counts, one, other: is_path_ahead(counts, one, other, ("a",)),
                 lambda counts, one, other: is_path_ahead(counts, one, other, None)]
        for call in calls:
            for counts in [TWO, ONCE, MORE]:
                place = counts.start
                self.check_raises(NoPlace, {"place": "q"}, lambda: call(counts, "q", "r"))
                self.check_raises(NoPlace, {"place": "q"}, lambda: call(counts, "q", place))
                self.check_raises(NoPlace, {"place": "r"}, lambda: call(counts, place, "r"))


class HowArgumentsCome(unittest.TestCase):
    def test_lists_for_tuples(self):
        row = ["a", "b", "c", "b"]
        self.assertEqual((left_order(row), met_order(row), row), (("a", "c", "b"), ("a", "b", "c"), list("abcb")))

    def test_by_name(self):
        for call in OF_TWO:
            self.assertEqual(call(other="c", place="b", counts=TWO), call(TWO, "b", "c"))
        for call in OF_ALL:
            self.assertEqual(call(counts=MORE), call(MORE))
        self.assertIs(is_path_ahead(thing=("c", "a"), other="c", place="b", counts=TWO), True)
        self.assertEqual((left_order(journey=("a", "b", "a")), met_order(journey=("a", "b", "a"))),
                         (("b", "a"), ("a", "b")))

    def test_returned_values(self):
        for call in [always_left, always_met]:
            call(TWO).clear()
            self.assertEqual(len(call(TWO)), 2)
        for value in [path_ahead(TWO, "b", "c"), journey_ahead(TWO, "b", "c"), sure_beginning(MORE), sure_end(MORE),
                      always_left(TWO)[0], always_met(TWO)[0]]:
            self.assertIs(value.__class__, tuple)


class AtTheBounds(unittest.TestCase):
    def test_great_numbers(self):
        pairs = list(itertools.permutations("abcdefgh", 2))
        counts = Counts("a", [(*pair, GREAT) for pair in pairs])
        self.assertEqual(always_left(counts), [(place, "a") for place in "bcdefgh"])
        self.assertEqual(always_met(counts), [("a", place) for place in "bcdefgh"])
        self.assertEqual((left_ahead(counts, "b", "c"), met_ahead(counts, "a", "b")), ("sometimes", "always"))
        road = Counts("a", [(one, other, GREAT) for pair in zip("abcdefg", "bcdefgh") for one, other in [pair, pair[::-1]]]
                      + [pair + (1,) for pair in zip("abcdefg", "bcdefgh")])
        self.assertEqual(path_ahead(road, "a", "b"), tuple("bcdefgh"))
        self.assertIs(is_path_ahead(road, "a", "b", tuple("bcdefgh")), True)
        self.assertEqual([left_ahead(road, *pair) for pair in ["ab", "ba", "gh", "ha"]],
                         ["always", "never", "always", "never"])

    def test_sixty_steps(self):
        counts = Counts("a", [(*pair, 1) for pair in itertools.permutations("abcdefgh", 2)]
                        + [("h", "a", 2), ("a", "h", 2)])
        for one, other in itertools.permutations("bcdefgh", 2):
            journey, first = journey_ahead(counts, one, other), journey_ahead(counts, one, other, first=True)
            self.assertEqual((Counts.of(journey), Counts.of(first)), (counts, counts))
            self.assertLess(last(journey, one), last(journey, other))
            self.assertLess(first.index(one), first.index(other))
        row = ("a", "b", "c") * 20 + ("d",)
        self.assertEqual((sure_beginning(Counts.of(row)), sure_end(Counts.of(row))), (row, row))
        self.assertIs(is_journey(sure_beginning(counts)), True)


if __name__ == "__main__":
    unittest.main()
