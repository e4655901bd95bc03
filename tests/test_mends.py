"""Points 1 (h), 2, 3 and 17: mends."""

import functools
import itertools
import random
import unittest

from countedsteps.counts import Counts
from countedsteps.errors import Below, Still
from countedsteps.journeys import is_journey, steps_of
from countedsteps.mends import (
    can_begin, covered_by, fewest_journeys, is_mend, mend, mend_to, mends, mends_to,
)
from countedsteps.stands import end_of, is_had
from helping import GREAT, ODD_THINGS, Raising

ROADS, GAPS = (("a", "b", 2), ("b", "c", 1), ("b", "d", 1)), (("c", "d", 1), ("a", "b", 1))
LOOPS = (("s", "a", 1), ("a", "s", 1), ("b", "c", 1), ("c", "b", 1))
# All functions, with arguments ahead of the steps and behind them.
CALLS = [
    lambda steps: fewest_journeys(steps), lambda steps: covered_by(steps), lambda steps: can_begin("a", steps),
    lambda steps: mends("a", steps), lambda steps: mend("a", steps), lambda steps: is_mend("a", steps, ()),
    lambda steps: is_mend("a", steps, None), lambda steps: mends_to("a", "b", steps),
    lambda steps: mend_to("a", "b", steps), lambda steps: mends_to("a", "a", steps),
    lambda steps: mend_to("x", "x", steps),
]


def made(steps):
    """How often each step is made."""
    return Counts("a", steps).steps


def some_steps(seed, many, most=3, number=2):
    """Triples over up to four places, also such as are not made, and such as stand there twice."""
    rng = random.Random(seed)
    for _ in range(many):
        places = rng.sample("abcd", rng.randint(2, 4))
        yield tuple((*rng.sample(places, 2), rng.randint(0, number)) for _ in range(rng.randint(0, most)))


def all_mends(start, steps, most, end=None):
    """The mends of the least size, up to most, found by trying all."""
    places = sorted({start, end or start, *[place for triple in steps for place in triple[:2]]})
    pairs = list(itertools.permutations(places, 2))
    for size in range(most + 1):
        found = []
        for added in itertools.combinations_with_replacement(pairs, size):
            counts = Counts(start, [*steps, *[(*pair, 1) for pair in added]])
            if is_had(counts) and end in (None, end_of(counts)):
                found.append(Counts(start, [(*pair, 1) for pair in added]).steps)
        if found:
            return found
    return None


def covers(steps):
    """The starts of all lists of as few journeys as can be that make all steps: the number and the starts."""
    left = [(one, other) for one, other, many in made(steps) for _ in range(many)]

    @functools.lru_cache(maxsize=None)
    def starts(rest):
        """The fewest journeys, and the sets of their starts, for these steps, one journey behind another."""
        if not rest:
            return 0, {()}
        fewest, found = len(rest) + 1, set()

        def go_on(begin, here, now, length):
            nonlocal fewest, found
            if length:
                number, behind = starts(now)
                if number + 1 < fewest:
                    fewest, found = number + 1, set()
                if number + 1 == fewest:
                    found |= {tuple(sorted((begin, *row))) for row in behind}
            for pair in sorted(set(now)):
                if pair[0] == here:
                    at = now.index(pair)
                    go_on(begin, pair[1], now[:at] + now[at + 1:], length + 1)

        for begin in sorted({pair[0] for pair in rest}):
            go_on(begin, begin, rest, 0)
        return fewest, found

    return starts(tuple(left))


class DocumentExamples(Raising):
    def test_covers(self):
        self.assertEqual((fewest_journeys(ROADS), len(covered_by(ROADS)), fewest_journeys(())), (2, 2, 0))
        self.assertEqual([can_begin(place, ROADS) for place in "abx"], [True, False, False])
        self.assertEqual(sorted(covered_by(GAPS)), [("a", "b"), ("c", "d")])
        self.assertEqual(fewest_journeys((("a", "b", GREAT), ("b", "a", 1))), GREAT - 1)

    def test_mends(self):
        self.assertEqual((mends("a", ROADS), mends("b", ROADS), mends("x", ROADS), mends("x", ())), (1, 2, 2, 0))
        self.assertEqual(mend("a", GAPS), (("b", "c", 1),))
        self.assertIs(is_mend("b", GAPS, mend("b", GAPS)), True)
        self.assertEqual(mends("s", LOOPS), 1)
        self.assertEqual([is_mend("a", GAPS, thing) for thing in
                          [(("b", "c", 1),), (("b", "c", 1), ("d", "a", 1)), [("b", "c", 1)], (("b", "c", True),)]],
                         [True, False, False, False])
        self.assertIs(is_mend("x", (), ()), True)

    def test_mends_to(self):
        self.assertEqual((mends_to("a", "d", GAPS), mend_to("a", "d", GAPS)), (1, (("b", "c", 1),)))
        self.assertEqual((mends_to("a", "a", GAPS), mend_to("a", "a", GAPS)), (2, (("b", "c", 1), ("d", "a", 1))))
        self.assertEqual((mend_to("s", "t", ()), mends_to("s", "s", ())), ((("s", "t", 1),), 0))

    def test_errors(self):
        self.check_raises(Still, {"place": "c"}, lambda: fewest_journeys((("a", "b", 1), ("c", "c", 0))))


class AgainstTryingAll(unittest.TestCase):
    def test_covers(self):
        for steps in some_steps(171, 120, most=4):
            if sum(many for _, _, many in steps) <= 6:
                number, starts = covers(steps)
                journeys = covered_by(steps)
                self.assertEqual((fewest_journeys(steps), len(journeys)), (number, number))
                self.assertEqual(made([(*pair, 1) for journey in journeys for pair in steps_of(journey)]), made(steps))
                for journey in journeys:
                    self.assertTrue(is_journey(journey) and len(journey) > 1)
                for place in "abcdx":
                    self.assertIs(can_begin(place, steps), any(place in row for row in starts))

    def test_mends(self):
        tried = 0
        for steps in some_steps(172, 150):
            for start in "ax":
                found = all_mends(start, steps, 4)
                if found is not None:
                    tried += 1
                    self.assertEqual(mends(start, steps), len(self.spread(found[0])))
                    self.assertIn(mend(start, steps), found)
                    for thing in found:
                        self.assertIs(is_mend(start, steps, thing), True)
        self.assertGreater(tried, 200)

    def spread(self, triples):
        return [triple for triple in triples for _ in range(triple[2])]

    def test_what_is_no_mend(self):
        rng = random.Random(173)
        pairs = list(itertools.permutations("abx", 2))
        for steps in some_steps(174, 40, most=2):
            found = all_mends("a", steps, 4)
            for _ in range(20):
                thing = tuple((*pair, rng.randint(0, 2)) for pair in rng.sample(pairs, rng.randint(0, 2)))
                if found is not None and not any("x" in triple for triple in thing):
                    self.assertIs(is_mend("a", steps, thing), thing in found)

    def test_mends_to(self):
        rng, tried = random.Random(175), 0
        for steps in some_steps(176, 200):
            start, end = rng.choice("abx"), rng.choice("abxy")
            found = all_mends(start, steps, 4, end)
            if found is not None:
                tried += 1
                self.assertEqual(mends_to(start, end, steps), len(self.spread(found[0])))
                self.assertIn(mend_to(start, end, steps), found)
        self.assertGreater(tried, 100)


class Edges(Raising):
    def test_no_steps(self):
        for steps in [(), (("a", "b", 0),), (("a", "b", 0), ("a", "b", 0), ("c", "d", 0))]:
            self.assertEqual((fewest_journeys(steps), covered_by(steps), can_begin("a", steps)), (0, [], False))
            self.assertEqual((mends("a", steps), mend("a", steps), is_mend("a", steps, ())), (0, (), True))
            self.assertEqual((mends_to("a", "a", steps), mend_to("a", "a", steps)), (0, ()))
            self.assertEqual((mends_to("x", "b", steps), mend_to("x", "b", steps)), (1, (("x", "b", 1),)))

    def test_loops(self):
        self.assertEqual([can_begin(place, LOOPS) for place in "sabcx"], [True, True, True, True, False])
        self.assertEqual((fewest_journeys(LOOPS), mends("x", LOOPS)), (2, 2))
        self.assertEqual((mends_to("s", "s", LOOPS), mends_to("s", "b", LOOPS), mends_to("x", "x", LOOPS),
                          mends_to("x", "y", LOOPS)), (2, 1, 3, 3))
        self.assertIs(is_mend("s", LOOPS, (("s", "c", 1),)), True)
        self.assertIs(is_mend("s", LOOPS, (("a", "b", 1),)), False)

    def test_one_loop_and_its_ends(self):
        loop = (("a", "b", 1), ("b", "a", 1))
        self.assertEqual((mends_to("a", "a", loop), mends_to("a", "b", loop), mend_to("a", "b", loop)),
                         (0, 1, (("a", "b", 1),)))
        self.assertEqual((mends("b", loop), mend("b", loop), mends("x", loop)), (0, (), 1))

    def test_what_is_no_mend(self):
        for thing in [*ODD_THINGS, [["b", "c", 1]], (["b", "c", 1],), (("b", "c", 0),), (("b", "c", 1, 1),),
                      (("b", "c", "1"),), (("b", "b", 1),), (("b", "C", 1),), (("b", "c", 1), ("b", "c", 1)),
                      (("d", "a", 1), ("b", "c", 1)), (("b", "c", None),), (("b", ("c",), 1),), (("b", "c", 2),)]:
            self.assertIs(is_mend("a", GAPS, thing), False)
        self.assertIs(is_mend("a", ROADS, (("c", "a", 1),)), True)
        self.assertIs(is_mend("a", ROADS, (("c", "b", 1),)), False)
        twice = (("a", "b", 3),)
        self.assertIs(is_mend("a", twice, (("b", "a", 2),)), True)
        self.assertIs(is_mend("a", twice, (("b", "a", 1), ("b", "a", 1))), False)
        # The least number of steps must ascend, too.
        self.assertIs(is_mend("x", GAPS, (("d", "a", 1), ("x", "c", 1))), True)
        self.assertIs(is_mend("x", GAPS, (("x", "c", 1), ("d", "a", 1))), False)


class Errors(Raising):
    def test_still_ahead_of_below(self):
        for call in CALLS:
            self.check_raises(Still, {"place": "c"}, lambda: call((("a", "b", -1), ("c", "c", 0), ("d", "d", -1))))
            self.check_raises(Still, {"place": "b"}, lambda: call((("b", "b", -1),)))
            self.check_raises(Below, {"one": "a", "other": "b", "number": -GREAT},
                              lambda: call((("a", "c", 1), ("a", "b", -GREAT), ("b", "c", -1))))


class HowArgumentsCome(unittest.TestCase):
    def test_lists_for_tuples(self):
        steps = [["c", "d", 1], ["a", "b", 1]]
        for call in CALLS:
            self.assertEqual(call(steps), call(GAPS))
        self.assertEqual(steps, [["c", "d", 1], ["a", "b", 1]])
        self.assertIs(is_mend("a", steps, (("b", "c", 1),)), True)

    def test_by_name(self):
        self.assertEqual((fewest_journeys(steps=ROADS), len(covered_by(steps=ROADS))), (2, 2))
        self.assertIs(can_begin(steps=ROADS, place="a"), True)
        self.assertEqual((mends(steps=ROADS, start="b"), mend(steps=GAPS, start="a")), (2, (("b", "c", 1),)))
        self.assertIs(is_mend(thing=(("b", "c", 1),), steps=GAPS, start="a"), True)
        self.assertEqual((mends_to(steps=GAPS, end="d", start="a"), mend_to(steps=GAPS, end="d", start="a")),
                         (1, (("b", "c", 1),)))

    def test_returned_values(self):
        covered_by(ROADS).clear()
        self.assertEqual(len(covered_by(ROADS)), 2)
        for value in [*covered_by(list(ROADS)), mend("b", GAPS), mend("b", GAPS)[0], mend_to("a", "a", GAPS)[1]]:
            self.assertIs(value.__class__, tuple)


class AtTheBounds(unittest.TestCase):
    def test_great_numbers(self):
        steps = [(one, other, GREAT if one < other else GREAT - 7) for one, other in itertools.permutations("abcdefgh", 2)]
        self.assertEqual(fewest_journeys(steps), 7 * (7 + 5 + 3 + 1))
        self.assertEqual([can_begin(place, steps) for place in "adeh"], [True, True, False, False])
        self.assertEqual((mends("a", steps), mends("h", steps), mends_to("a", "h", steps)), (111, 112, 111))
        self.assertEqual((mends_to("h", "a", steps), mends_to("x", "x", steps)), (113, 113))
        one_way = (("a", "b", GREAT),)
        self.assertEqual((fewest_journeys(one_way), mends_to("a", "a", one_way)), (GREAT, GREAT))
        self.assertIs(is_mend("a", one_way, (("b", "a", GREAT - 1),)), True)
        self.assertIs(is_mend("a", one_way, (("b", "a", GREAT),)), False)

    def test_sixty_steps(self):
        rng = random.Random(177)
        for _ in range(10):
            steps = [(*rng.sample("abcdefgh", 2), 1) for _ in range(60)]
            journeys = covered_by(steps)
            self.assertEqual(len(journeys), fewest_journeys(steps))
            self.assertEqual(made([(*pair, 1) for journey in journeys for pair in steps_of(journey)]), made(steps))
            for start, end in [("a", "b"), ("x", "y"), ("a", "a")]:
                self.assertIs(is_mend(start, steps, mend(start, steps)), True)
                added = mend_to(start, end, steps)
                counts = Counts(start, [*steps, *added])
                self.assertEqual((is_had(counts), end_of(counts)), (True, end))
                self.assertEqual(sum(many for _, _, many in added), mends_to(start, end, steps))
        self.assertEqual(mend("a", (("a", "b", 60),)), (("b", "a", 59),))


if __name__ == "__main__":
    unittest.main()
