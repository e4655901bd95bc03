"""Points 1 (c), 2, 3 and 10: last and first steps."""

import itertools
import random
import unittest

from countedsteps.counts import Counts
from countedsteps.errors import NoJourney, NoNumber, NoPlace, NotCounted
from countedsteps.journeys import entries, exits
from countedsteps.lasts import (
    can_be_last, first_ins, first_outs, journey_with_last, last_ins, last_outs, share_first_in, share_in, share_last,
    share_out, share_together, sure_first_ins, sure_lasts,
)
from countedsteps.ranks import all_journeys
from helping import GREAT, NOT_HAD, Raising, followed, ratio, small_counts

ROUND_ABOUT = Counts.of(("a", "b", "c", "a", "c", "b", "d"))
NONE_HAD = NOT_HAD[0]


def met_set(rows, at):
    """The set of what stands at the index, from either end, in those of the rows that have it."""
    return tuple(sorted({row[at] for row in rows if row}))


class DocumentExamples(Raising):
    def test_which(self):
        self.assertEqual(all_journeys(ROUND_ABOUT), [
            ("a", "b", "c", "a", "c", "b", "d"), ("a", "c", "a", "b", "c", "b", "d"),
            ("a", "c", "b", "c", "a", "b", "d")])
        self.assertEqual((last_outs(ROUND_ABOUT, "a"), last_outs(ROUND_ABOUT, "b")), (("b", "c"), ("d",)))
        self.assertEqual((first_outs(ROUND_ABOUT, "b"), first_ins(ROUND_ABOUT, "b")), (("c",), ("a", "c")))
        self.assertEqual(last_outs(ROUND_ABOUT, "d"), ())

    def test_shares(self):
        self.assertEqual((share_last(ROUND_ABOUT, "a", "b"), share_out(ROUND_ABOUT, "a", "b")), ((2, 3), (1, 3)))
        self.assertEqual(share_first_in(ROUND_ABOUT, "a", "b"), (2, 3))
        self.assertEqual(share_last(ROUND_ABOUT, "a", "d"), (0, 1))
        self.assertEqual(share_last(Counts.of(("a", "b", "a", "c", "a")), "a", "b"), (1, 2))

    def test_together(self):
        self.assertIs(can_be_last(ROUND_ABOUT, (("a", "c"), ("c", "a"))), False)
        self.assertEqual(share_together(ROUND_ABOUT, (("c", "b"), ("a", "b"))), (1, 3))
        self.assertEqual(journey_with_last(ROUND_ABOUT, (("c", "a"),)), ("a", "c", "b", "c", "a", "b", "d"))

    def test_sure(self):
        self.assertEqual(sure_lasts(ROUND_ABOUT), (("b", "d"),))
        self.assertEqual(sure_first_ins(ROUND_ABOUT), (("b", "d"), ("c", "a")))
        self.assertEqual(sure_lasts(Counts.of(("a", "b", "a", "b", "a"))), (("a", "b"), ("b", "a")))

    def test_errors(self):
        self.check_raises(NoNumber, {"number": 0}, lambda: share_out(ROUND_ABOUT, "d", "a"))
        self.check_raises(NotCounted, {"one": "b", "other": "a"},
                          lambda: can_be_last(ROUND_ABOUT, (("b", "d"), ("b", "a"))))


class AgainstAllJourneys(unittest.TestCase):
    def test_which(self):
        for counts in small_counts(101, many=100):
            journeys = followed(counts)
            for place in counts.places:
                outs = [exits(journey, place) for journey in journeys]
                ins = [entries(journey, place) for journey in journeys]
                self.assertEqual(last_outs(counts, place), met_set(outs, -1))
                self.assertEqual(first_outs(counts, place), met_set(outs, 0))
                self.assertEqual(first_ins(counts, place), met_set(ins, 0))
                self.assertEqual(last_ins(counts, place), met_set(ins, -1))

    def test_shares(self):
        for counts in small_counts(102, many=60):
            journeys = followed(counts)
            for one, other in itertools.product(counts.places, repeat=2):
                outs = [exits(journey, one) for journey in journeys]
                ins = [entries(journey, other) for journey in journeys]
                self.check_share(share_last(counts, one, other), outs, -1, other)
                self.check_share(share_first_in(counts, one, other), ins, 0, one)
                if counts.outs(one):
                    self.check_share(share_out(counts, one, other), outs, 0, other)
                if counts.ins(other):
                    self.check_share(share_in(counts, one, other), ins, 0, one)
                for number in range(counts.outs(one)):
                    self.check_share(share_out(counts, one, other, number=number), outs, number, other)
                for number in range(counts.ins(other)):
                    self.check_share(share_in(counts, one, other, number=number), ins, number, one)

    def check_share(self, share, rows, at, place):
        those = [row for row in rows if row and row[at] == place]
        self.assertEqual(share, ratio(len(those), len(rows)))

    def test_together(self):
        rng = random.Random(103)
        for counts in small_counts(104, many=100):
            journeys = followed(counts)
            made = [(one, other) for one, other, _ in counts.steps]
            for _ in range(4):
                steps = tuple(rng.choice(made) for _ in range(rng.randint(0, 4))) if made else ()
                those = [journey for journey in journeys
                         if all(exits(journey, one)[-1] == other for one, other in steps)]
                self.assertIs(can_be_last(counts, steps), those != [])
                self.assertEqual(share_together(counts, steps), ratio(len(those), len(journeys)))
                self.assertEqual(journey_with_last(counts, steps), those[0] if those else None)

    def test_sure(self):
        for counts in small_counts(105, many=60):
            journeys = followed(counts)
            lasts = [(place, met_set([exits(journey, place) for journey in journeys], -1)) for place in counts.places]
            firsts = [(place, met_set([entries(journey, place) for journey in journeys], 0)) for place in counts.places]
            self.assertEqual(sure_lasts(counts), tuple((place, row[0]) for place, row in lasts if len(row) == 1))
            self.assertEqual(sure_first_ins(counts),
                             tuple(sorted((row[0], place) for place, row in firsts if len(row) == 1)))


class Edges(Raising):
    def test_without_steps(self):
        counts = Counts("m")
        for call in [last_outs, first_outs, first_ins, last_ins]:
            self.assertEqual(call(counts, "m"), ())
        self.assertEqual((share_last(counts, "m", "m"), share_first_in(counts, "m", "m")), ((0, 1), (0, 1)))
        self.check_raises(NoNumber, {"number": 0}, lambda: share_out(counts, "m", "m"))
        self.check_raises(NoNumber, {"number": 0}, lambda: share_in(counts, "m", "m"))
        self.assertEqual((can_be_last(counts, ()), share_together(counts, ()), journey_with_last(counts, ())),
                         (True, (1, 1), ("m",)))
        self.assertEqual((sure_lasts(counts), sure_first_ins(counts)), ((), ()))

    def test_one_place_twice(self):
        self.assertEqual((share_last(ROUND_ABOUT, "a", "a"), share_first_in(ROUND_ABOUT, "b", "b")), ((0, 1), (0, 1)))
        self.assertEqual((share_out(ROUND_ABOUT, "c", "c", number=1), share_in(ROUND_ABOUT, "c", "c")), ((0, 1), (0, 1)))

    def test_steps_that_exclude_each_other(self):
        # Nothing leads to s any more if these are the last steps of a and b.
        counts = Counts("s", (("s", "a", 1), ("s", "b", 1), ("a", "s", 1), ("a", "e", 1), ("b", "a", 1)))
        for steps in [(("s", "a"), ("s", "b")), (("s", "a"), ("s", "b"), ("a", "e")), (("a", "s"), ("a", "e"))]:
            self.assertIs(can_be_last(counts, steps), False)
            self.assertEqual((share_together(counts, steps), journey_with_last(counts, steps)), ((0, 1), None))
        twice = (("s", "a"), ("a", "e"), ("s", "a"))
        self.assertEqual(share_together(counts, twice), share_together(counts, twice[:2]))

    def test_steps_out_of_the_end(self):
        walk = Counts("s", (("s", "a", 3), ("a", "s", 3), ("s", "b", 1), ("b", "s", 1)))
        self.assertEqual((last_outs(walk, "s"), first_outs(walk, "s")), (("a", "b"), ("a", "b")))
        self.assertEqual([share_out(walk, "s", "a", number=number) for number in range(4)], [(3, 4)] * 4)
        self.assertEqual(share_together(walk, (("s", "b"), ("a", "s"))), (1, 4))
        self.assertIs(can_be_last(walk, (("s", "a"), ("s", "b"))), False)


class Errors(Raising):
    def test_no_journey_ahead_of_all_else(self):
        for counts in NOT_HAD:
            for call in [last_outs, first_outs, first_ins, last_ins]:
                self.check_raises(NoJourney, {}, lambda: call(counts, "zz"))
            for call in [share_last, share_first_in, share_out, share_in]:
                self.check_raises(NoJourney, {}, lambda: call(counts, "zz", "y"))
            for call in [can_be_last, share_together, journey_with_last]:
                self.check_raises(NoJourney, {}, lambda: call(counts, (("x", "y"),)))
            for call in [sure_lasts, sure_first_ins]:
                self.check_raises(NoJourney, {}, lambda: call(counts))

    def test_no_place(self):
        for call in [last_outs, first_outs, first_ins, last_ins]:
            self.check_raises(NoPlace, {"place": "x"}, lambda: call(ROUND_ABOUT, "x"))
        for call in [share_last, share_first_in]:
            self.check_two(call)
        for call in [share_out, share_in]:
            self.check_two(call)
            self.check_two(lambda counts, one, other: call(counts, one, other, number=-5))

    def check_two(self, call):
        self.check_raises(NoPlace, {"place": "x"}, lambda: call(ROUND_ABOUT, "x", "y"))
        self.check_raises(NoPlace, {"place": "x"}, lambda: call(ROUND_ABOUT, "x", "a"))
        self.check_raises(NoPlace, {"place": "y"}, lambda: call(ROUND_ABOUT, "a", "y"))

    def test_no_number(self):
        for number in [-1, 2, GREAT, -GREAT]:
            self.check_raises(NoNumber, {"number": number}, lambda: share_out(ROUND_ABOUT, "a", "b", number=number))
            self.check_raises(NoNumber, {"number": number}, lambda: share_in(ROUND_ABOUT, "a", "b", number=number))
        self.check_raises(NoNumber, {"number": 1}, lambda: share_in(ROUND_ABOUT, "a", "d", number=1))
        # a has two exits, but is come to once.
        self.check_raises(NoNumber, {"number": 1}, lambda: share_in(ROUND_ABOUT, "b", "a", number=1))

    def test_not_counted_for_the_first_step(self):
        for call in [can_be_last, share_together, journey_with_last]:
            for steps, one, other in [((("a", "d"),), "a", "d"), ((("b", "d"), ("x", "y"), ("b", "a")), "x", "y"),
                                      ((("a", "b"), ("a", "c"), ("b", "a"), ("c", "d")), "b", "a")]:
                self.check_raises(NotCounted, {"one": one, "other": other}, lambda: call(ROUND_ABOUT, steps))


class HowArgumentsCome(unittest.TestCase):
    def test_lists_for_tuples(self):
        steps = [["c", "b"], ["a", "b"]]
        self.assertEqual(share_together(ROUND_ABOUT, steps), (1, 3))
        self.assertIs(can_be_last(ROUND_ABOUT, steps), True)
        self.assertEqual(journey_with_last(ROUND_ABOUT, [["c", "a"]]), ("a", "c", "b", "c", "a", "b", "d"))
        self.assertEqual(steps, [["c", "b"], ["a", "b"]])

    def test_by_name(self):
        counts = ROUND_ABOUT
        for call in [last_outs, first_outs, first_ins, last_ins]:
            self.assertEqual(call(place="b", counts=counts), call(counts, "b"))
        for call in [share_last, share_first_in, share_out, share_in]:
            self.assertEqual(call(other="b", one="a", counts=counts), call(counts, "a", "b"))
        for call in [can_be_last, share_together, journey_with_last]:
            self.assertEqual(call(steps=(("c", "b"),), counts=counts), call(counts, (("c", "b"),)))
        self.assertEqual((sure_lasts(counts=counts), sure_first_ins(counts=counts)),
                         ((("b", "d"),), (("b", "d"), ("c", "a"))))
        for call in [share_out, share_in]:
            with self.assertRaises(TypeError):
                call(counts, "a", "b", 0)

    def test_kinds_of_values(self):
        for value in [last_outs(ROUND_ABOUT, "a"), share_last(ROUND_ABOUT, "a", "b"), sure_lasts(ROUND_ABOUT),
                      sure_lasts(ROUND_ABOUT)[0], journey_with_last(ROUND_ABOUT, ())]:
            self.assertIs(value.__class__, tuple)


class AtTheBounds(unittest.TestCase):
    def test_sixty_steps(self):
        counts = Counts("a", [(*pair, 2) for pair in itertools.permutations("abcdef", 2)])
        self.assertEqual(share_last(counts, "b", "a"), (1, 3))
        self.assertEqual([share_last(counts, "b", other) for other in "cdef"], [(1, 6)] * 4)
        self.assertEqual(share_out(counts, "b", "a", number=3), (5, 27))
        self.assertEqual(share_in(counts, "b", "a", number=9), (1, 5))
        self.assertEqual(share_together(counts, (("b", "a"), ("c", "a"), ("d", "a"), ("e", "a"), ("f", "a"))),
                         (1, 6 ** 4))
        journey = journey_with_last(counts, (("b", "c"), ("c", "d"), ("d", "e"), ("e", "f")))
        self.assertEqual([exits(journey, place)[-1] for place in "bcdef"], list("cdefa"))

    def test_great_numbers(self):
        counts = Counts("a", [(*pair, GREAT) for pair in itertools.permutations("abcdefgh", 2)])
        self.assertEqual(last_outs(counts, "b"), tuple("acdefgh"))
        self.assertEqual(first_ins(counts, "a"), tuple("bcdefgh"))
        self.assertIs(can_be_last(counts, (("b", "c"), ("c", "d"), ("d", "b"))), False)
        self.assertEqual(sure_lasts(Counts("a", (("a", "b", GREAT), ("b", "a", GREAT), ("b", "c", 1), ("c", "b", 1)))),
                         (("a", "b"), ("b", "a"), ("c", "b")))


if __name__ == "__main__":
    unittest.main()
