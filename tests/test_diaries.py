"""Points 1 (h), 2, 3 and 16: diaries."""

import itertools
import random
import unittest

from countedsteps.counts import Counts
from countedsteps.diaries import (
    by_diaries, changed_at, diaries_of, needed, needed_for, tells, tells_all, two_alike, with_diaries,
)
from countedsteps.errors import BadLists, NoJourney
from countedsteps.journeys import exits
from countedsteps.trees import how_many
from helping import GREAT, NOT_HAD, Raising, followed, small_counts, walked

WALK = Counts.of(("s", "a", "s", "b", "s"))
MORE = Counts("s", (("s", "a", 3), ("a", "s", 2), ("s", "b", 1), ("b", "s", 1)))
FULL = Counts("a", [(*pair, 1) for pair in itertools.permutations("abcdefgh", 2)] + [("h", "a", 2), ("a", "h", 2)])


def told(journey, places):
    """The exit lists of the places."""
    return tuple((place, exits(journey, place)) for place in places)


def place_sets(counts):
    """All sets of places of the counts, and one with a place that does not occur."""
    for length in range(len(counts.places) + 1):
        yield from itertools.combinations(counts.places, length)
    yield (*counts.places[1:], "zz")


class DocumentExamples(Raising):
    def test_lists(self):
        self.assertEqual(diaries_of(("s", "a", "s", "b", "s"), ("s", "x")), (("s", ("a", "b")), ("x", ())))
        self.assertEqual([with_diaries(WALK, lists) for lists in [(), (("a", ("s",)),), (("s", ("b", "a")),)]], [2, 2, 1])
        self.assertEqual(by_diaries(WALK, (("s", ("b", "a")),)), ("s", "b", "s", "a", "s"))
        self.assertEqual((with_diaries(MORE, (("s", ("a", "b", "a", "a")),)),
                          with_diaries(MORE, (("s", ("a", "a", "a", "b")),)),
                          by_diaries(MORE, (("s", ("a", "a", "a", "b")),))), (1, 0, None))

    def test_needed(self):
        self.assertEqual((needed(WALK), needed(MORE)), (("s",), ("s",)))
        self.assertIs(tells_all(WALK, ("s",)), True)
        self.assertIs(tells_all(WALK, ("a", "b")), False)
        self.assertEqual(two_alike(WALK, ("a", "b")), (("s", "a", "s", "b", "s"), ("s", "b", "s", "a", "s")))
        self.assertIsNone(two_alike(WALK, ("s", "x")))

    def test_needed_for(self):
        trip, home = ("a", "b", "a", "c"), ("a", "b", "a", "c", "a")
        self.assertEqual((needed_for(trip), needed_for(home)), ((), ("a",)))
        self.assertIs(tells(trip, ()), True)
        self.assertEqual((changed_at(trip, "a"), changed_at(home, "a")), (None, ("a", "c", "a", "b", "a")))

    def test_errors(self):
        self.check_raises(BadLists, {"place": "s"}, lambda: with_diaries(WALK, (("s", ("a", "a")),)))


class AgainstAllJourneys(unittest.TestCase):
    def test_lists(self):
        for counts in small_counts(161, many=40):
            journeys = followed(counts)
            for places in place_sets(counts):
                met = [told(journey, places) for journey in journeys]
                for journey, lists in zip(journeys, met):
                    self.assertEqual(diaries_of(journey, places), lists)
                    self.assertEqual(with_diaries(counts, lists), met.count(lists))
                    self.assertEqual(told(by_diaries(counts, lists), places), lists)
                    self.assertIs(tells(journey, places), met.count(lists) == 1)
                self.assertIs(tells_all(counts, places), len(set(met)) == len(met))

    def test_lists_that_no_journey_has(self):
        rng = random.Random(162)
        none = 0
        for counts in small_counts(163, many=60):
            journeys = followed(counts)
            for places in place_sets(counts):
                lists = tuple((place, tuple(rng.sample(row, len(row)))) for place, row in told(journeys[0], places))
                many = len([journey for journey in journeys if told(journey, places) == lists])
                none += many == 0
                self.assertEqual(with_diaries(counts, lists), many)
                self.assertIn(by_diaries(counts, lists),
                              [journey for journey in journeys if told(journey, places) == lists] or [None])
        self.assertGreater(none, 20)

    def test_needed(self):
        for counts in small_counts(164, many=60):
            journeys = followed(counts)
            needs = set()
            for journey in journeys:
                those = {place: self.changed(journeys, journey, place) for place in (*counts.places, "zz")}
                needs.update(place for place in those if those[place])
                self.assertEqual(needed_for(journey), tuple(place for place in counts.places if those[place]))
                for place, changed in those.items():
                    self.assertIn(changed_at(journey, place), changed or [None])
            unlike = [place for place in counts.places if len({exits(journey, place) for journey in journeys}) > 1]
            self.assertEqual(needed(counts), tuple(unlike))
            self.assertEqual(sorted(needs), unlike)

    def changed(self, journeys, journey, place):
        """The other journeys with the same exit lists at all other places."""
        others = [one for one in set(journey) if one != place]
        return [row for row in journeys if row != journey and told(row, others) == told(journey, others)]

    def test_two_alike(self):
        for counts in small_counts(165, many=60):
            journeys = followed(counts)
            for places in place_sets(counts):
                pair = two_alike(counts, places)
                if len({told(journey, places) for journey in journeys}) == len(journeys):
                    self.assertIsNone(pair)
                else:
                    one, other = pair
                    self.assertTrue(one < other and one in journeys and other in journeys)
                    unlike = [place for place in counts.places if exits(one, place) != exits(other, place)]
                    self.assertEqual(len(unlike), 1)
                    self.assertNotIn(unlike[0], places)


class Edges(Raising):
    def test_without_steps(self):
        counts = Counts("m")
        self.assertEqual((diaries_of(("m",), ()), diaries_of(("m",), ("m",))), ((), (("m", ()),)))
        self.assertEqual((with_diaries(counts, (("m", ()),)), by_diaries(counts, ())), (1, ("m",)))
        self.assertEqual((needed(counts), needed_for(("m",)), two_alike(counts, ())), ((), (), None))
        self.assertIs(tells_all(counts, ()), True)
        self.assertIs(tells(("m",), ()), True)
        self.assertIsNone(changed_at(("m",), "m"))

    def test_places_that_do_not_occur(self):
        lists = (("b", ("s",)), ("m", ()), ("s", ("b", "a")), ("x", ()))
        self.assertEqual((with_diaries(WALK, lists), by_diaries(WALK, lists)), (1, ("s", "b", "s", "a", "s")))
        self.assertIs(tells_all(WALK, ("m", "x")), False)
        self.assertIs(tells(("a", "b", "a", "c", "a"), ("m", "x")), False)
        self.assertIsNone(changed_at(("a", "b", "a"), "x"))

    def test_all_places_and_none(self):
        for counts in [WALK, MORE]:
            self.assertIs(tells_all(counts, counts.places), True)
            self.assertIs(tells_all(counts, ()), False)
            self.assertIsNone(two_alike(counts, counts.places))
        self.assertEqual(with_diaries(MORE, ()), how_many(MORE))

    def test_a_last_member_that_may_be_either_way(self):
        # Out of a one goes once to b and once to c, and both lead to the end without a.
        counts = Counts.of(("a", "b", "d", "a", "c", "d"))
        self.assertEqual(needed(counts), ("a",))
        self.assertEqual(two_alike(counts, ("b", "c", "d")),
                         (("a", "b", "d", "a", "c", "d"), ("a", "c", "d", "a", "b", "d")))

    def test_other_places_that_are_not_left_by_way_of_it(self):
        # Each p can be left last towards x only if x is left last towards the end without p.
        for row in ["zxpepxbe", "zxpepxye", "axbebxpe", "zxpwpxbw"]:
            counts, place = Counts.of(tuple(row)), row[2]
            one, other = two_alike(counts, tuple(sorted(set(row) - {place})))
            self.assertNotEqual(exits(one, place), exits(other, place))
            self.assertEqual((Counts.of(one), Counts.of(other)), (counts, counts))

    def test_a_last_member_that_cannot_change(self):
        counts = Counts("a", (("a", "b", GREAT), ("b", "a", GREAT), ("a", "c", 1)))
        self.assertEqual((needed(counts), tells_all(counts, ()), two_alike(counts, ())), ((), True, None))
        more = Counts("a", (("a", "b", GREAT), ("b", "a", GREAT), ("a", "c", 2), ("c", "a", 1)))
        self.assertEqual((needed(more), tells_all(more, ("b", "c")), tells_all(more, ("a",))), (("a",), False, True))


class Errors(Raising):
    def test_no_journey_ahead_of_all_else(self):
        for counts in NOT_HAD:
            for lists in [(), (("a", ("zz",)),)]:
                self.check_raises(NoJourney, {}, lambda: with_diaries(counts, lists))
                self.check_raises(NoJourney, {}, lambda: by_diaries(counts, lists))
            self.check_raises(NoJourney, {}, lambda: needed(counts))
            for call in [tells_all, two_alike]:
                self.check_raises(NoJourney, {}, lambda: call(counts, ()))
                self.check_raises(NoJourney, {}, lambda: call(counts, counts.places))

    def test_bad_lists_for_the_first_place(self):
        for call in [with_diaries, by_diaries]:
            for row in [(), ("a",), ("a", "a"), ("a", "b", "a"), ("a", "c"), ("a", "b", "c"), ("a", "?"), ("?", "?")]:
                self.check_raises(BadLists, {"place": "s"}, lambda: call(WALK, (("s", row),)))
                self.check_raises(BadLists, {"place": "s"}, lambda: call(WALK, (("a", ("s",)), ("s", row), ("x", ("s",)))))
            self.check_raises(BadLists, {"place": "a"}, lambda: call(WALK, (("a", ()), ("b", ()))))
            self.check_raises(BadLists, {"place": "x"}, lambda: call(WALK, (("a", ("s",)), ("x", ("s",)))))
            # The journey need not leave its end, and then there is no member.
            self.check_raises(BadLists, {"place": "b"}, lambda: call(Counts.of(("a", "b")), (("b", ("a",)),)))


class HowArgumentsCome(unittest.TestCase):
    def test_lists_for_tuples(self):
        lists, row = [["a", ["s"]], ("s", ["b", "a"])], ["s", "a", "s", "b", "s"]
        self.assertEqual((with_diaries(WALK, lists), by_diaries(WALK, lists)), (1, ("s", "b", "s", "a", "s")))
        self.assertEqual(diaries_of(row, ["s", "x"]), (("s", ("a", "b")), ("x", ())))
        self.assertEqual((needed_for(row), changed_at(row, "s"), tells(row, ["s"])),
                         (("s",), ("s", "b", "s", "a", "s"), True))
        self.assertEqual((tells_all(WALK, ["s"]), two_alike(WALK, ["s"])), (True, None))
        self.assertEqual((lists, row), ([["a", ["s"]], ("s", ["b", "a"])], list("sasbs")))

    def test_by_name(self):
        row = ("s", "a", "s", "b", "s")
        self.assertEqual(diaries_of(places=("s",), journey=row), (("s", ("a", "b")),))
        for call in [with_diaries, by_diaries]:
            self.assertEqual(call(lists=(("s", ("b", "a")),), counts=WALK), call(WALK, (("s", ("b", "a")),)))
        self.assertEqual((needed_for(journey=row), changed_at(place="s", journey=row), tells(places=(), journey=row)),
                         (("s",), ("s", "b", "s", "a", "s"), False))
        self.assertEqual((needed(counts=WALK), tells_all(places=(), counts=WALK)), (("s",), False))
        self.assertEqual(two_alike(places=(), counts=WALK), two_alike(WALK, ()))

    def test_kinds_of_values(self):
        row = list("sasbs")
        for value in [diaries_of(row, ["s"]), diaries_of(row, ["s"])[0], diaries_of(row, ["s"])[0][1], needed(WALK),
                      needed_for(row), changed_at(row, "s"), by_diaries(WALK, [["s", ["b", "a"]]]), two_alike(WALK, []),
                      two_alike(WALK, [])[0]]:
            self.assertIs(value.__class__, tuple)


class AtTheBounds(unittest.TestCase):
    def test_sixty_steps(self):
        self.assertEqual(needed(FULL), tuple("abcdefgh"))
        for place in "abcdefgh":
            one, other = two_alike(FULL, tuple(name for name in "abcdefgh" if name != place))
            self.assertEqual((Counts.of(one), Counts.of(other)), (FULL, FULL))
            self.assertEqual([name for name in "abcdefgh" if exits(one, name) != exits(other, name)], [place])
        journey, _ = two_alike(FULL, ())
        lists = diaries_of(journey, tuple("abcd"))
        self.assertGreater(with_diaries(FULL, lists), 1)
        self.assertEqual(told(by_diaries(FULL, lists), tuple("abcd")), lists)
        self.assertEqual(with_diaries(FULL, diaries_of(journey, tuple("abcdefgh"))), 1)

    def test_a_journey_of_sixty_one_places(self):
        journey = walked(random.Random(166), "abcdefgh", 60)
        for place in needed_for(journey):
            other = changed_at(journey, place)
            self.assertEqual(Counts.of(other), Counts.of(journey))
            self.assertEqual([name for name in "abcdefgh" if exits(journey, name) != exits(other, name)], [place])
        names = ["".join(pair) for pair in itertools.product("pqrstuvw", "abcdefgh")]
        self.assertEqual(needed_for(tuple(names[:61])), ())
        self.assertEqual(needed_for((*names[:59], names[0], names[2])), (names[0],))
        self.assertEqual(needed_for((*names[:57], "x", names[1], "x", names[0])), (names[1],))

    def test_great_numbers(self):
        counts = Counts("a", [(*pair, GREAT) for pair in itertools.permutations("abcdefgh", 2)])
        self.assertEqual(needed(counts), tuple("abcdefgh"))
        self.assertIs(tells_all(counts, tuple("abcdefg")), False)


if __name__ == "__main__":
    unittest.main()
