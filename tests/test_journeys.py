"""Points 2, 3 and 4: places, steps, journeys and what is read off one of them."""

import itertools
import unittest

from countedsteps.counts import Counts
from countedsteps.errors import Apart, NoJourney
from countedsteps.journeys import (
    entries, exits, is_journey, is_place, is_step, joined, seen, steps_of, turned, visits,
)

TRIP = ("a", "b", "a", "c", "a")


def nested(levels):
    """A tuple that is nested so many levels deep around a PLACE."""
    thing = "a"
    for _ in range(levels):
        thing = (thing,)
    return thing


OTHER_THINGS = [
    0, 1, -1, 10 ** 30, True, False, None, "", (), [], [[]], ((),), nested(2), nested(12), [nested(11)],
    Counts("a"), Counts("a", (("a", "b", 1),)), (Counts("a"),), ("a", Counts("a")), (Counts("a"), "a"),
    NoJourney(), (NoJourney(), NoJourney()), (1, 2), (True, False), (None,), (None, "a"), ("a", None),
    ("a", 1), (1, "a"), ("a", True), ("a", ("b",)), (("a", "b"), ("b", "a")), ("a", ["b"]), (["a"], "b"),
]
BAD_PLACES = [
    "A", "Inn", "aB", "abcdefghi", "a b", " a", "a ", "a\n", "\n", "a1", "1", "-", "?", "a-b", "_", "a_",
    "\u00e9", "\u00df", "\u0430", "\u00aa", "\uff41", "`", "{", "a\u0301",
]


class DocumentExamples(unittest.TestCase):
    def test_reading_a_journey(self):
        self.assertEqual(steps_of(TRIP), (("a", "b"), ("b", "a"), ("a", "c"), ("c", "a")))
        self.assertEqual(visits(TRIP, "a"), (0, 2, 4))
        self.assertEqual(exits(TRIP, "a"), ("b", "c"))
        self.assertEqual(entries(TRIP, "c"), ("a",))
        self.assertEqual(exits(TRIP, "x"), ())

    def test_making_journeys(self):
        self.assertEqual(turned(("a", "b", "c")), ("c", "b", "a"))
        self.assertEqual(joined(("a", "b"), ("b", "a", "b")), ("a", "b", "a", "b"))
        self.assertEqual(seen(TRIP, (("c", "b"),)), ("a", "b", "a", "b", "a"))
        self.assertEqual(seen(TRIP, (("b", "a"), ("c", "hut"))), ("a", "hut", "a"))

    def test_what_things_are(self):
        self.assertIs(is_journey(TRIP), True)
        self.assertIs(is_journey(("a",)), True)
        self.assertIs(is_journey(("a", "a")), False)
        self.assertIs(is_journey(["a", "b"]), False)
        self.assertIs(is_journey(()), False)
        self.assertIs(is_step(("a", "a")), False)
        self.assertIs(is_place("Inn"), False)

    def test_joined_apart(self):
        with self.assertRaises(Apart) as caught:
            joined(("a", "b"), ("a", "b"))
        self.assertEqual(vars(caught.exception), {"end": "b", "begin": "a"})


class Things(unittest.TestCase):
    def test_places(self):
        for thing in ["a", "z", "m", "ab", "zz", "hut", "abcdefgh", "zzzzzzzz"]:
            self.assertIs(is_place(thing), True, thing)
        for letter in "abcdefghijklmnopqrstuvwxyz":
            self.assertIs(is_place(letter), True, letter)

    def test_no_places(self):
        for thing in [*BAD_PLACES, *OTHER_THINGS, ("a",), ["a"], ("a", "b"), "a" * 1000]:
            self.assertIs(is_place(thing), False, thing)

    def test_steps(self):
        for thing in [("a", "b"), ("b", "a"), ("a", "aa"), ("abcdefgh", "abcdefgg")]:
            self.assertIs(is_step(thing), True, thing)

    def test_no_steps(self):
        for thing in [*BAD_PLACES, *OTHER_THINGS, "a", "ab", ("a",), ("a", "b", "a"), ("a", "b", "c"),
                      ["a", "b"], ("b", "b"), ("ab",), (("a", "b"),), ("a", "b", 1)]:
            self.assertIs(is_step(thing), False, thing)
        for place in BAD_PLACES:
            self.assertIs(is_step(("a", place)), False, place)
            self.assertIs(is_step((place, "a")), False, place)

    def test_journeys(self):
        for thing in [("a",), ("a", "b"), ("a", "b", "a"), ("hut", "sea", "abcdefgh"), ("a", "b") * 500]:
            self.assertIs(is_journey(thing), True, thing)

    def test_no_journeys(self):
        for thing in [*BAD_PLACES, *OTHER_THINGS, "a", "ab", ["a"], [], ("a", "b", "b"), ("a", "a", "b"),
                      ("a", "b", "b", "a"), (("a", "b"),), ("a", "b", 1), ("a", "b", True)]:
            self.assertIs(is_journey(thing), False, thing)
        for place in BAD_PLACES:
            self.assertIs(is_journey((place,)), False, place)
            self.assertIs(is_journey(("a", "b", place)), False, place)


class OnePlace(unittest.TestCase):
    def test_a_journey_of_one_place(self):
        self.assertEqual(steps_of(("a",)), ())
        self.assertEqual(visits(("a",), "a"), (0,))
        self.assertEqual(exits(("a",), "a"), ())
        self.assertEqual(entries(("a",), "a"), ())
        self.assertEqual(turned(("a",)), ("a",))
        self.assertEqual(seen(("a",), (("a", "b"),)), ("b",))
        self.assertEqual(joined(("a",), ("a",)), ("a",))
        self.assertEqual(joined(("a",), ("a", "b")), ("a", "b"))
        self.assertEqual(joined(("a", "b"), ("b",)), ("a", "b"))

    def test_a_place_that_does_not_occur(self):
        for place in ["x", "aa", "abcdefgh"]:
            self.assertEqual(visits(TRIP, place), ())
            self.assertEqual(exits(TRIP, place), ())
            self.assertEqual(entries(TRIP, place), ())
        self.assertEqual(seen(TRIP, (("x", "a"), ("y", "b"))), TRIP)


class Visits(unittest.TestCase):
    def test_the_last_visit_has_no_next_place(self):
        self.assertEqual(exits(("a", "b", "a", "b"), "b"), ("a",))
        self.assertEqual(exits(("a", "b", "c"), "c"), ())

    def test_the_first_visit_has_no_place_ahead(self):
        self.assertEqual(entries(("a", "b", "a", "b"), "a"), ("b",))
        self.assertEqual(entries(("a", "b", "c"), "a"), ())

    def test_in_the_order_of_the_journey(self):
        journey = ("a", "z", "a", "b", "a", "z", "a", "m", "a")
        self.assertEqual(exits(journey, "a"), ("z", "b", "z", "m"))
        self.assertEqual(entries(journey, "a"), ("z", "b", "z", "m"))
        self.assertEqual(steps_of(("z", "a", "b", "a")), (("z", "a"), ("a", "b"), ("b", "a")))


class Joined(unittest.TestCase):
    def test_ends_that_are_unlike(self):
        cases = [(("a",), ("b",), "a", "b"), (("a", "b", "c"), ("a",), "c", "a"), (("a", "b"), ("c", "b"), "b", "c")]
        for one, other, end, begin in cases:
            with self.assertRaises(Apart) as caught:
                joined(one, other)
            self.assertEqual((caught.exception.end, caught.exception.begin), (end, begin))


class Seen(unittest.TestCase):
    def test_all_names_at_once(self):
        self.assertEqual(seen(("a", "b", "c"), (("a", "b"), ("b", "c"), ("c", "a"))), ("b", "c", "a"))
        self.assertEqual(seen(("a", "b", "a"), (("b", "a"), ("a", "b"))), ("b", "a", "b"))

    def test_neighbours_that_come_to_be_alike(self):
        self.assertEqual(seen(("a", "b", "c", "a", "d"), (("b", "a"), ("c", "a"))), ("a", "d"))
        self.assertEqual(seen(("a", "b", "c"), (("a", "x"), ("b", "x"), ("c", "x"))), ("x",))
        self.assertEqual(seen(("d", "a", "b", "c"), (("c", "a"), ("b", "a"))), ("d", "a"))
        self.assertEqual(seen(("a", "b", "a", "b"), (("b", "a"),)), ("a",))

    def test_a_name_that_other_places_have(self):
        self.assertEqual(seen(("a", "b", "c"), (("a", "c"),)), ("c", "b", "c"))
        self.assertEqual(seen(("a", "b", "c"), (("b", "c"),)), ("a", "c"))

    def test_no_names_and_the_same_name(self):
        self.assertEqual(seen(TRIP, ()), TRIP)
        self.assertEqual(seen(TRIP, (("a", "a"),)), TRIP)


class HowArgumentsCome(unittest.TestCase):
    def test_lists_for_tuples(self):
        trip = list(TRIP)
        self.assertEqual(steps_of(trip), steps_of(TRIP))
        self.assertEqual(visits(trip, "a"), visits(TRIP, "a"))
        self.assertEqual(exits(trip, "a"), exits(TRIP, "a"))
        self.assertEqual(entries(trip, "a"), entries(TRIP, "a"))
        self.assertEqual(turned(trip), turned(TRIP))
        self.assertEqual(joined(trip, ("a", "b")), joined(TRIP, ("a", "b")))
        self.assertEqual(joined(("b", "a"), trip), joined(("b", "a"), TRIP))
        for names in [[["b", "a"], ["c", "hut"]], (["b", "a"], ("c", "hut")), [("b", "a"), ("c", "hut")]]:
            self.assertEqual(seen(trip, names), ("a", "hut", "a"))
        self.assertEqual(seen(["a"], []), ("a",))

    def test_lists_that_are_apart(self):
        with self.assertRaises(Apart) as caught:
            joined(["a", "b"], ["a", "b"])
        self.assertEqual((caught.exception.end, caught.exception.begin), ("b", "a"))

    def test_arguments_by_name(self):
        self.assertTrue(is_place(thing="a") and is_step(thing=("a", "b")) and is_journey(thing=("a",)))
        self.assertEqual(steps_of(journey=("a", "b")), (("a", "b"),))
        self.assertEqual(visits(place="a", journey=TRIP), (0, 2, 4))
        self.assertEqual(exits(place="a", journey=TRIP), ("b", "c"))
        self.assertEqual(entries(place="c", journey=TRIP), ("a",))
        self.assertEqual(turned(journey=("a", "b")), ("b", "a"))
        self.assertEqual(joined(other=("b", "c"), one=("a", "b")), ("a", "b", "c"))
        self.assertEqual(seen(names=(("a", "x"),), journey=("a", "b")), ("x", "b"))

    def test_arguments_remain_as_they_are(self):
        trip, names, tail = list(TRIP), [["b", "a"], ["c", "hut"]], ["a", "b"]
        for call in [lambda: steps_of(trip), lambda: turned(trip), lambda: seen(trip, names),
                     lambda: joined(trip, tail), lambda: visits(trip, "a"), lambda: exits(trip, "a"),
                     lambda: entries(trip, "a"), lambda: is_journey(trip)]:
            self.assertEqual(call(), call())
            self.assertEqual((trip, names, tail), (list(TRIP), [["b", "a"], ["c", "hut"]], ["a", "b"]))


class LongJourneys(unittest.TestCase):
    def test_sixty_one_places_and_more(self):
        for many in [30, 5000]:
            journey = ("a", "b") * many + ("a",)
            self.assertIs(is_journey(journey), True)
            self.assertEqual(steps_of(journey), (("a", "b"), ("b", "a")) * many)
            self.assertEqual(visits(journey, "b"), tuple(range(1, 2 * many, 2)))
            self.assertEqual(exits(journey, "a"), ("b",) * many)
            self.assertEqual(entries(journey, "a"), ("b",) * many)
            self.assertEqual(turned(journey), journey)
            self.assertEqual(len(joined(journey, journey)), 4 * many + 1)
            self.assertEqual(seen(journey, (("b", "a"),)), ("a",))

    def test_longer_names_than_a_place_has(self):
        self.assertEqual(seen(("a", "b"), (("b", "abcdefgh"),)), ("a", "abcdefgh"))


class SmallJourneys(unittest.TestCase):
    """All tuples of one to six of three places."""

    def test_journeys_by_the_words_of_the_document(self):
        for length in range(1, 7):
            for row in itertools.product("abc", repeat=length):
                still = any(row[at] == row[at + 1] for at in range(length - 1))
                self.assertIs(is_journey(row), not still)
                if not still:
                    self.check_journey(row)

    def check_journey(self, journey):
        back = turned(journey)
        self.assertEqual(turned(back), journey)
        self.assertEqual([step[0] for step in steps_of(journey)], list(journey[:-1]))
        self.assertEqual([step[1] for step in steps_of(journey)], list(journey[1:]))
        for place in "abcd":
            there = visits(journey, place)
            self.assertEqual([at for at in range(len(journey)) if at in there],
                             [at for at in range(len(journey)) if journey[at] == place])
            self.assertEqual(exits(journey, place), tuple(journey[at + 1] for at in there if at + 1 < len(journey)))
            self.assertEqual(exits(back, place), entries(journey, place)[::-1])
        for at in range(len(journey)):
            self.assertEqual(joined(journey[:at + 1], journey[at:]), journey)


if __name__ == "__main__":
    unittest.main()
