"""Points 2, 3 and 6: whether there is a journey."""

import unittest

from countedsteps.counts import Counts
from countedsteps.errors import NoJourney, Short
from countedsteps.journeys import turned
from countedsteps.stands import (
    end_of, gone, is_had, need, open_steps, pieces, some_journey, surplus, turned_counts, why_none,
)
from helping import GREAT, NOT_HAD, Raising, any_counts, followed, small_counts

FLOWER = Counts("a", (("a", "b", 2), ("b", "a", 2), ("a", "c", 1), ("c", "a", 1)))
ROAD = Counts("a", (("a", "b", 2), ("b", "a", 1), ("b", "c", 1)))


class DocumentExamples(Raising):
    def test_flower(self):
        self.assertEqual(end_of(FLOWER), "a")
        self.assertEqual(open_steps(FLOWER), ["b", "c"])
        self.assertEqual(some_journey(FLOWER), ("a", "b", "a", "b", "a", "c", "a"))
        self.assertEqual((surplus(FLOWER), pieces(FLOWER)), ((), [("a", "b", "c")]))

    def test_road(self):
        self.assertEqual(end_of(ROAD), "c")
        self.assertEqual(surplus(ROAD), (("a", 1), ("c", -1)))
        self.assertEqual(some_journey(ROAD), ("a", "b", "a", "b", "c"))
        self.assertEqual(open_steps(gone(ROAD, "b")), ["a"])
        self.assertEqual(turned_counts(ROAD).text, "from c\na b 1\nb a 2\nc b 1")

    def test_none(self):
        self.assertIsNone(why_none(ROAD))
        self.assertEqual(why_none(ROAD.begun("b")), ("surplus", "a"))
        self.assertEqual(why_none(Counts("x", FLOWER.steps)), ("apart", "a"))
        self.assertIs(is_had(Counts("x")), True)
        self.assertIsNone(some_journey(ROAD.begun("c")))
        self.check_raises(NoJourney, {}, lambda: end_of(ROAD.begun("b")))


class WithoutSteps(Raising):
    def test_no_steps(self):
        counts = Counts("x")
        self.assertEqual((surplus(counts), pieces(counts), why_none(counts)), ((), [("x",)], None))
        self.assertEqual((end_of(counts), turned_counts(counts), need(counts)), ("x", counts, None))
        self.assertEqual((open_steps(counts), some_journey(counts)), ([], ("x",)))
        self.check_raises(Short, {"one": "x", "other": "a", "lacking": 1}, lambda: gone(counts, "a"))
        self.check_raises(Short, {"one": "x", "other": "x", "lacking": 1}, lambda: gone(counts, "x"))

    def test_a_start_that_has_no_step(self):
        counts = Counts("m", (("a", "b", 1), ("b", "a", 1), ("z", "y", 2)))
        self.assertEqual(pieces(counts), [("a", "b"), ("m",), ("y", "z")])
        self.assertEqual(surplus(counts), (("y", -2), ("z", 2)))
        self.assertEqual(why_none(counts), ("surplus", "y"))
        self.assertEqual(why_none(Counts("m", (("a", "b", 1), ("b", "a", 1)))), ("apart", "a"))
        self.assertEqual((open_steps(counts), some_journey(counts), is_had(counts)), ([], None, False))


class Reasons(Raising):
    def test_surplus_for_the_least_place(self):
        # Below -1, above 0 and not the start, above 1: whichever place is the least.
        self.assertEqual(why_none(Counts("b", (("b", "a", 2),))), ("surplus", "a"))
        self.assertEqual(why_none(Counts("a", (("a", "b", 2),))), ("surplus", "a"))
        self.assertEqual(why_none(Counts("c", (("a", "c", 1),))), ("surplus", "a"))
        self.assertEqual(why_none(Counts("c", (("c", "a", 1), ("c", "b", 1)))), ("surplus", "c"))
        self.assertEqual(why_none(Counts("c", (("b", "a", 1), ("d", "a", 2)))), ("surplus", "a"))
        self.assertEqual(why_none(Counts("a", (("b", "c", 1),))), ("surplus", "b"))

    def test_surplus_ahead_of_apart(self):
        counts = Counts("d", (("a", "b", 1), ("b", "a", 1), ("e", "d", 1)))
        self.assertEqual(why_none(counts), ("surplus", "e"))

    def test_apart_for_the_least_place(self):
        steps = [(one, other, 1) for pair in ["bc", "de", "ax"] for one, other in [pair, pair[::-1]]]
        self.assertEqual(why_none(Counts("d", steps)), ("apart", "a"))
        self.assertEqual(why_none(Counts("x", steps)), ("apart", "b"))
        self.assertEqual(why_none(Counts("b", steps[:4])), ("apart", "d"))
        self.assertEqual(pieces(Counts("x", steps)), [("a", "x"), ("b", "c"), ("d", "e")])

    def test_hanging_together_whichever_way_steps_lead(self):
        counts = Counts("c", (("a", "b", 1), ("c", "b", 1), ("d", "e", 1)))
        self.assertEqual(pieces(counts), [("a", "b", "c"), ("d", "e")])

    def test_no_journey(self):
        for counts in NOT_HAD:
            for call in [end_of, turned_counts, need]:
                self.check_raises(NoJourney, {}, lambda: call(counts))
            self.assertIs(is_had(counts), False)
            self.assertEqual((open_steps(counts), some_journey(counts)), ([], None))


class FirstSteps(Raising):
    def test_gone(self):
        self.assertEqual(gone(FLOWER, "b").text, "from b\na b 1\na c 1\nb a 2\nc a 1")
        self.assertEqual(gone(FLOWER, "c").text, "from c\na b 2\nb a 2\nc a 1")
        # Also where no journey has what there is, or what is left.
        self.assertEqual(gone(NOT_HAD[2], "b").text, "from b\na b 1")
        self.assertEqual(gone(Counts("a", (("a", "b", 1), ("a", "c", 1), ("b", "a", 1))), "c"),
                         Counts("c", (("a", "b", 1), ("b", "a", 1))))

    def test_gone_short(self):
        for place in ["a", "d", "x"]:
            self.check_raises(Short, {"one": "a", "other": place, "lacking": 1}, lambda: gone(FLOWER, place))
        self.check_raises(Short, {"one": "b", "other": "c", "lacking": 1}, lambda: gone(FLOWER.begun("b"), "c"))
        self.check_raises(Short, {"one": "z", "other": "a", "lacking": 1}, lambda: gone(FLOWER.begun("z"), "a"))
        self.check_raises(Short, {"one": "a", "other": "c", "lacking": 1}, lambda: gone(NOT_HAD[0], "c"))

    def test_steps_that_are_not_open(self):
        self.assertEqual(open_steps(Counts("a", (("a", "b", 1), ("a", "c", 1), ("b", "a", 1)))), ["b"])
        self.assertEqual(open_steps(Counts("b", (("a", "b", 1), ("b", "a", 1), ("b", "c", 1)))), ["a"])


class AgainstAllJourneys(unittest.TestCase):
    def test_counts_that_are_had_or_not(self):
        for counts in any_counts(6):
            journeys = followed(counts)
            self.assertIs(is_had(counts), journeys != [])
            self.assertIs(why_none(counts) is None, journeys != [])
            self.assertEqual(some_journey(counts), journeys[0] if journeys else None)
            self.assertEqual(open_steps(counts), sorted({row[1] for row in journeys if len(row) > 1}))

    def test_small_counts(self):
        for counts in small_counts(61, many=60):
            journeys = followed(counts)
            self.assertIsNone(need(counts))
            self.assertEqual({end_of(counts)}, {row[-1] for row in journeys})
            self.assertEqual(some_journey(counts), journeys[0])
            self.assertEqual(open_steps(counts), sorted({row[1] for row in journeys if len(row) > 1}))
            self.assertEqual(turned_counts(counts), Counts.of(turned(journeys[-1])))
            for place in open_steps(counts):
                rest = [row[1:] for row in journeys if row[1] == place]
                self.assertEqual(followed(gone(counts, place)), rest)


class HowArgumentsCome(unittest.TestCase):
    def test_by_name(self):
        self.assertEqual(surplus(counts=ROAD), surplus(ROAD))
        self.assertEqual(pieces(counts=ROAD), pieces(ROAD))
        self.assertEqual((why_none(counts=ROAD), is_had(counts=ROAD), end_of(counts=ROAD)), (None, True, "c"))
        self.assertEqual((turned_counts(counts=ROAD).start, need(counts=ROAD)), ("c", None))
        self.assertEqual(gone(place="b", counts=ROAD), gone(ROAD, "b"))
        self.assertEqual((open_steps(counts=ROAD), some_journey(counts=ROAD)[0]), (["b"], "a"))

    def test_lists_are_new(self):
        for call in [pieces, open_steps]:
            call(FLOWER).append("x")
            self.assertNotIn("x", call(FLOWER))
        self.assertEqual(FLOWER, Counts("a", FLOWER.steps))

    def test_kinds_of_values(self):
        self.assertIs(surplus(ROAD).__class__, tuple)
        self.assertEqual([pair.__class__ for pair in surplus(ROAD)], [tuple, tuple])
        self.assertEqual([piece.__class__ for piece in pieces(ROAD)], [tuple])
        self.assertIs(some_journey(ROAD).__class__, tuple)


class GreatNumbers(Raising):
    def test_ten_to_the_thirty(self):
        steps = [(one, other, GREAT) for one in "abcdefgh" for other in "abcdefgh" if one != other]
        counts = Counts("c", [*steps, ("c", "h", 1)])
        self.assertEqual(surplus(counts), (("c", 1), ("h", -1)))
        self.assertEqual(pieces(counts), [tuple("abcdefgh")])
        self.assertEqual((why_none(counts), end_of(counts)), (None, "h"))
        self.assertEqual(open_steps(counts), list("abdefgh"))
        self.assertEqual(gone(counts, "a")["c", "a"], GREAT - 1)
        self.assertEqual((turned_counts(counts).start, turned_counts(counts)["h", "c"]), ("h", GREAT + 1))
        self.assertEqual(why_none(counts + Counts("c", (("c", "h", GREAT),))), ("surplus", "c"))
        self.check_raises(NoJourney, {}, lambda: end_of(counts.begun("h")))

    def test_sixty_steps_over_eight_places(self):
        steps = [(one, other, 1) for one in "abcdefgh" for other in "abcdefgh" if one != other]
        journey = some_journey(Counts("a", [*steps, ("a", "b", 2), ("b", "a", 2)]))
        self.assertEqual(journey[:12], ("a", "b", "a", "b", "a", "b", "a", "c", "a", "d", "a", "e"))
        self.assertEqual(Counts.of(journey), Counts("a", [*steps, ("a", "b", 2), ("b", "a", 2)]))


if __name__ == "__main__":
    unittest.main()
