"""Points 2, 3 and 8: all journeys by their numbers."""

import itertools
import unittest

from countedsteps.counts import Counts
from countedsteps.errors import NoJourney, NoNumber, TooMany, Unlike
from countedsteps.ranks import Journeys, all_journeys
from countedsteps.trees import how_many
from helping import NOT_HAD, Raising, followed, small_counts

SIX = Counts("a", (("a", "b", 1), ("a", "c", 1), ("b", "a", 1), ("b", "c", 1), ("c", "a", 1), ("c", "b", 1)))
ALL_SIX = Journeys(SIX)


class DocumentExamples(Raising):
    def test_properties_and_index(self):
        self.assertEqual(ALL_SIX.many, 6)
        self.assertEqual(ALL_SIX.first, ("a", "b", "a", "c", "b", "c", "a"))
        self.assertEqual(ALL_SIX.last, ("a", "c", "b", "c", "a", "b", "a"))
        self.assertEqual(ALL_SIX[2], ("a", "b", "c", "b", "a", "c", "a"))

    def test_rank_and_neighbours(self):
        self.assertEqual(ALL_SIX.rank(("a", "c", "b", "a", "b", "c", "a")), 4)
        self.assertEqual(ALL_SIX.after(ALL_SIX[1]), ALL_SIX[2])
        self.assertIsNone(ALL_SIX.after(ALL_SIX.last))
        self.assertIsNone(ALL_SIX.ahead(ALL_SIX.first))

    def test_between(self):
        self.assertEqual(ALL_SIX.between(("a", "b")), (0, 3))
        self.assertEqual(ALL_SIX.between(("a", "b", "b")), (1, 1))
        self.assertEqual(ALL_SIX.between(("b",)), (6, 6))
        self.assertEqual(ALL_SIX.between((*ALL_SIX.last, "b")), (6, 6))
        self.assertIs(("a", "b") in ALL_SIX, False)

    def test_all_journeys(self):
        self.assertEqual(all_journeys(Counts("a", (("a", "b", 1), ("a", "c", 1), ("b", "a", 1)))),
                         [("a", "b", "a", "c")])
        self.assertEqual(len(all_journeys(SIX, most=6)), 6)

    def test_errors(self):
        self.check_raises(NoNumber, {"number": 6}, lambda: ALL_SIX[6])
        self.check_raises(Unlike, {}, lambda: ALL_SIX.rank(("a", "b", "a")))
        self.check_raises(TooMany, {"most": 5}, lambda: all_journeys(SIX, most=5))


class AgainstAllJourneys(unittest.TestCase):
    def test_small_counts(self):
        for counts in small_counts(81, many=60):
            listed = followed(counts)
            journeys = Journeys(counts)
            self.assertEqual((journeys.many, journeys.first, journeys.last), (len(listed), listed[0], listed[-1]))
            self.assertEqual(journeys.counts, counts)
            self.assertEqual(all_journeys(counts), listed)
            for number in sorted({0, 1, len(listed) // 3, len(listed) // 2, len(listed) - 2, len(listed) - 1}):
                if 0 <= number < len(listed):
                    self.check_one(journeys, listed, number)

    def check_one(self, journeys, listed, number):
        journey = listed[number]
        self.assertEqual((journeys[number], journeys.rank(journey)), (journey, number))
        self.assertIs(journey in journeys, True)
        self.assertEqual(journeys.after(journey), listed[number + 1] if number + 1 < len(listed) else None)
        self.assertEqual(journeys.ahead(journey), listed[number - 1] if number else None)

    def test_between(self):
        for counts in small_counts(82, many=12, most=7):
            listed = followed(counts)
            journeys = Journeys(counts)
            for row in self.rows(counts, listed):
                first = len([journey for journey in listed if journey < row])
                begin = len([journey for journey in listed if journey[:len(row)] == row])
                self.assertEqual(journeys.between(row), (first, first + begin), (counts.text, row))

    def rows(self, counts, listed):
        """Rows of all kinds: neighbours alike, places that do not occur, another start, too long."""
        for length in range(1, 4):
            yield from itertools.product([*counts.places[:3], "bb"], repeat=length)
        for journey in listed[:3] + listed[-3:]:
            for length in range(1, len(journey) + 1):
                yield journey[:length]
                yield (*journey[:length], "a")
                yield (*journey[:length], "zz")
                yield (*journey[:length], journey[length - 1])

    def test_all_numbers(self):
        for counts in [SIX, Counts("a", (("a", "b", 4), ("b", "a", 3), ("b", "c", 2), ("c", "b", 1), ("c", "a", 1)))]:
            listed = followed(counts)
            self.assertEqual([Journeys(counts)[number] for number in range(len(listed))], listed)
            self.assertEqual([Journeys(counts).rank(journey) for journey in listed], list(range(len(listed))))


class Edges(Raising):
    def test_without_steps(self):
        journeys = Journeys(Counts("m"))
        self.assertEqual((journeys.many, journeys.first, journeys.last, journeys[0]), (1, ("m",), ("m",), ("m",)))
        self.assertEqual((journeys.rank(("m",)), journeys.after(("m",)), journeys.ahead(("m",))), (0, None, None))
        self.assertEqual([journeys.between(row) for row in [("m",), ("a",), ("z",), ("m", "a"), ("m", "m")]],
                         [(0, 1), (0, 0), (1, 1), (1, 1), (1, 1)])
        self.assertEqual(all_journeys(Counts("m")), [("m",)])

    def test_numbers_that_there_are_not(self):
        for number in [-1, -6, 6, 7, 10 ** 30, -10 ** 30]:
            self.check_raises(NoNumber, {"number": number}, lambda: ALL_SIX[number])

    def test_unlike(self):
        for journey in [("a",), ("b",), ("a", "b"), ("b", "a", "c", "b", "c", "a", "b"), (*ALL_SIX.first, "b"),
                        ("a", "b", "a", "b", "c", "b", "a"), ("x", "y")]:
            self.assertIs(journey in ALL_SIX, False)
            for call in [ALL_SIX.rank, ALL_SIX.after, ALL_SIX.ahead]:
                self.check_raises(Unlike, {}, lambda: call(journey))

    def test_most(self):
        one = Counts("a", (("a", "b", 1),))
        self.check_raises(TooMany, {"most": 0}, lambda: all_journeys(one, most=0))
        self.assertEqual(all_journeys(one, most=1), [("a", "b")])
        many = Counts("a", (("a", "b", 10), ("a", "c", 10), ("b", "a", 10), ("c", "a", 10)))
        self.check_raises(TooMany, {"most": 2000}, lambda: all_journeys(many))
        self.check_raises(TooMany, {"most": 184755}, lambda: all_journeys(many, most=184755))
        with self.assertRaises(TypeError):
            all_journeys(SIX, 6)

    def test_no_journey_ahead_of_all_else(self):
        for counts in NOT_HAD:
            self.check_raises(NoJourney, {}, lambda: Journeys(counts))
            self.check_raises(NoJourney, {}, lambda: all_journeys(counts, most=0))

    def test_no_iteration(self):
        for call in [iter, list, sorted]:
            with self.assertRaises(TypeError):
                call(ALL_SIX)

    def test_equality(self):
        self.assertIs(ALL_SIX == Journeys(Counts("a", SIX.steps)), True)
        self.assertIs(ALL_SIX != Journeys(Counts("a", SIX.steps)), False)
        for thing in [Journeys(SIX.begun("b")), Journeys(Counts("a")), SIX, 6, None, (), "a", list(range(6))]:
            self.assertIs(ALL_SIX == thing, False)
            self.assertIs(thing == ALL_SIX, False)

    def test_no_setters(self):
        for name in ["counts", "many", "first", "last"]:
            with self.assertRaises(AttributeError):
                setattr(ALL_SIX, name, getattr(ALL_SIX, name))


class HowArgumentsCome(unittest.TestCase):
    def test_lists_for_tuples(self):
        self.assertEqual(ALL_SIX.rank(list(ALL_SIX[3])), 3)
        self.assertEqual((ALL_SIX.after(list(ALL_SIX[3])), ALL_SIX.ahead(list(ALL_SIX[3]))), (ALL_SIX[4], ALL_SIX[2]))
        self.assertIs(list(ALL_SIX[3]) in ALL_SIX, True)
        row = ["a", "b"]
        self.assertEqual((ALL_SIX.between(row), row), ((0, 3), ["a", "b"]))

    def test_by_name(self):
        journeys = Journeys(counts=SIX)
        self.assertEqual(journeys.rank(journey=ALL_SIX[3]), 3)
        self.assertEqual((journeys.after(journey=ALL_SIX[3]), journeys.ahead(journey=ALL_SIX[3])),
                         (ALL_SIX[4], ALL_SIX[2]))
        self.assertEqual(journeys.between(row=("a", "c")), (3, 6))
        self.assertEqual(all_journeys(counts=SIX), followed(SIX))

    def test_returned_values(self):
        all_journeys(SIX).clear()
        self.assertEqual(len(all_journeys(SIX)), 6)
        for value in [ALL_SIX[0], ALL_SIX.first, ALL_SIX.last, ALL_SIX.after(ALL_SIX[0]), ALL_SIX.between(("a",))]:
            self.assertIs(value.__class__, tuple)
        self.assertEqual(ALL_SIX[3], ALL_SIX[3])


class AtTheBounds(unittest.TestCase):
    def test_sixty_steps(self):
        for counts in [Counts("a", [(*pair, 2) for pair in itertools.permutations("abcdef", 2)]),
                       Counts("a", [(*pair, 1) for pair in itertools.permutations("abcdefgh", 2)]
                              + [("h", "a", 2), ("a", "h", 2)])]:
            self.assertEqual(counts.total, 60)
            journeys = Journeys(counts)
            self.assertEqual(journeys.many, how_many(counts))
            number = journeys.many * 2 // 3
            journey = journeys[number]
            self.assertEqual((journeys.rank(journey), journey in journeys), (number, True))
            self.assertEqual(journeys.rank(journeys.after(journey)), number + 1)
            self.assertLess(journeys.ahead(journey), journey)
            self.assertEqual(journeys.rank(journeys.last), journeys.many - 1)
            first, behind = journeys.between(journey[:20])
            self.assertEqual(journeys[first][:20], journey[:20])
            self.assertEqual(journeys[behind - 1][:20], journey[:20])
            self.assertNotEqual(journeys[behind][:20], journey[:20])

    def test_two_thousand_of_sixty_steps(self):
        steps = (("a", "b", 16), ("b", "d", 16), ("c", "a", 12), ("d", "a", 4), ("d", "c", 12))
        listed = all_journeys(Counts("a", steps))
        self.assertEqual((len(listed), len(listed[0])), (1820, 61))
        self.assertEqual(listed, sorted(set(listed)))


if __name__ == "__main__":
    unittest.main()
