"""Points 1 (f), 2, 3 and 14: windows."""

import itertools
import random
import unittest

from countedsteps.counts import Counts
from countedsteps.errors import NoJourney, NoSize, TooMany
from countedsteps.journeys import is_journey
from countedsteps.ranks import all_journeys
from countedsteps.stands import is_had
from countedsteps.windows import (
    Windows, all_with, crossing_by, how_many_with, is_crossing_by, is_told_by, least_window, numbers_by, some_with,
    told_apart, twin_by, why_none_with, window_for_all,
)
from helping import GREAT, NOT_HAD, ODD_THINGS, Raising, followed, short_journeys, small_counts, walked

TRIP = ("a", "b", "a", "c", "a")
FAR = ("a", "b", "c", "a", "b", "d", "a", "b", "e")
TOLD = Windows.of(TRIP, 2)
# Windows that no journey has, and why.
LOST = [
    (Windows(3, ("a", "b"), ((("a", "b", "c"), 1), (("c", "a", "b"), 1))), ("surplus", ("c", "a"))),
    (Windows(3, ("a", "b"), ((("c", "d", "c"), 1), (("d", "c", "d"), 1))), ("apart", ("c", "d"))),
    (Windows(3, ("x", "y"), ((("c", "d", "c"), 1), (("d", "c", "d"), 1))), ("apart", ("c", "d"))),
    (Windows(2, ("b",), ((("a", "b"), 1),)), ("surplus", ("a",))),
    (Windows(2, ("a",), ((("a", "b"), GREAT),)), ("surplus", ("a",))),
    # By the comparison of tuples ("a", "z") is less than ("ab", "c").
    (Windows(3, ("z", "y"), ((("ab", "c", "ab"), 2), (("a", "z", "a"), 2))), ("surplus", ("a", "z"))),
]


def own_windows(journey, size):
    """The head and the ascending pairs of the journey, counted one by one."""
    rows = [journey[at:at + size] for at in range(len(journey) - size + 1)]
    return journey[:size - 1], tuple((row, rows.count(row)) for row in sorted(set(rows)))


def by_windows(counts, size):
    """The journeys that have the counts, in groups that have the same windows."""
    groups = {}
    for journey in followed(counts):
        if size <= len(journey) + 1:
            groups.setdefault(own_windows(journey, size), []).append(journey)
    return groups


def by_the_words(journey):
    """The least window as the document reckons it from what is alike ahead of two indexes."""
    def alike(one, other):
        many = 0
        while one - many >= 0 and journey[one - many] == journey[other - many]:
            many += 1
        return many

    sizes = [2]
    for one, other in itertools.combinations(range(len(journey)), 2):
        if journey[one] != journey[other]:
            ahead = alike(one - 1, other - 1) if one else 0
            most = max(alike(first, late) for first in range(one, other) for late in range(other, len(journey)))
            sizes.append(2 + min(ahead, most))
    return max(sizes)


class DocumentExamples(Raising):
    def test_windows(self):
        self.assertEqual((TOLD.head, TOLD.total, TOLD["a", "b"], ("b", "c") in TOLD), (("a",), 4, 1, False))
        self.assertEqual(TOLD.pairs, ((("a", "b"), 1), (("a", "c"), 1), (("b", "a"), 1), (("c", "a"), 1)))
        self.assertIs(Windows.of(TRIP, 3).narrower() == TOLD, True)
        self.assertIs(TOLD.as_counts() == Counts.of(TRIP), True)
        self.assertIs(Windows.of(TRIP, 6) == Windows(6, TRIP), True)

    def test_journeys_that_have_them(self):
        self.assertEqual((how_many_with(TOLD), some_with(TOLD)), (2, TRIP))
        self.assertEqual(all_with(TOLD), [TRIP, ("a", "c", "a", "b", "a")])
        self.assertEqual(why_none_with(LOST[0][0]), ("surplus", ("c", "a")))
        self.assertIsNone(why_none_with(TOLD))

    def test_told(self):
        self.assertIs(is_told_by(TRIP, 2), False)
        self.assertIs(is_crossing_by(TRIP, 2, (0, 2, 2, 4)), True)
        self.assertIs(is_crossing_by(TRIP, 2, crossing_by(TRIP, 2)), True)
        self.assertEqual(twin_by(TRIP, 2), ("a", "c", "a", "b", "a"))
        self.assertIs(is_told_by(TRIP, 3), True)
        self.assertIs(is_told_by(("a", "b", "a", "b", "a"), 2), True)
        self.assertIs(is_told_by(("x", "a", "x", "a", "x", "a", "x"), 2), True)

    def test_sizes(self):
        self.assertEqual((least_window(FAR), numbers_by(FAR), least_window(TRIP), least_window(("a",))),
                         (4, [2, 2, 1], 3, 2))
        self.assertEqual(window_for_all(Counts.of(TRIP)), 3)
        other = ("a", "b", "d", "a", "b", "c", "a", "b", "e")
        self.assertEqual((told_apart(FAR, other), told_apart(TRIP, TRIP), told_apart(TRIP, ("a", "b"))), (4, None, 2))

    def test_errors(self):
        self.check_raises(NoSize, {"number": 7}, lambda: Windows.of(TRIP, 7))


class AgainstAllJourneys(unittest.TestCase):
    def test_windows_of_journeys(self):
        for journey in short_journeys("abc", 5):
            for size in range(2, len(journey) + 2):
                windows = Windows.of(journey, size)
                self.assertEqual((windows.head, windows.pairs), own_windows(journey, size))
                self.assertEqual((windows.size, windows.total), (size, len(journey) + 1 - size))
                self.assertEqual(windows.as_counts(), Counts.of(journey))
                for row, number in windows.pairs:
                    self.assertEqual((windows[row], row in windows), (number, True))
                if size > 2:
                    self.assertEqual(windows.narrower(), Windows.of(journey, size - 1))
                    self.assertEqual(windows.narrower().size, size - 1)

    def test_who_has_the_same(self):
        for counts in small_counts(141, many=60):
            for size in range(2, counts.total + 3):
                for (head, pairs), those in by_windows(counts, size).items():
                    windows = Windows(size, head, pairs)
                    self.assertIsNone(why_none_with(windows))
                    self.assertEqual((how_many_with(windows), some_with(windows)), (len(those), those[0]))
                    self.assertEqual(all_with(windows), those)
                    for journey in those:
                        self.check_told(journey, size, those)

    def check_told(self, journey, size, those):
        crossing, twin = crossing_by(journey, size), twin_by(journey, size)
        self.assertIs(is_told_by(journey, size), those == [journey])
        if those == [journey]:
            self.assertEqual((crossing, twin), (None, None))
        else:
            self.assertIs(is_crossing_by(journey, size, crossing), True)
            self.assertIn(twin, those)
            self.assertNotEqual(twin, journey)

    def test_least_windows(self):
        for counts in small_counts(142, many=60):
            least = {}
            for size in range(2, counts.total + 3):
                for those in by_windows(counts, size).values():
                    for journey in those:
                        least.setdefault(journey, []).append(len(those))
            for journey, numbers in least.items():
                size = 2 + numbers.index(1)
                self.assertEqual((least_window(journey), by_the_words(journey)), (size, size))
                self.assertEqual(numbers_by(journey), numbers[:size - 1])
            self.assertEqual(window_for_all(counts, most=10 ** 6), max(2 + row.index(1) for row in least.values()))

    def test_told_apart(self):
        for counts in small_counts(143, many=15, most=7):
            for one, other in itertools.product(followed(counts)[:12], repeat=2):
                sizes = [size for size in range(2, len(one) + 2) if own_windows(one, size) != own_windows(other, size)]
                self.assertEqual(told_apart(one, other), sizes[0] if sizes else None)

    def test_crossings(self):
        rng = random.Random(144)
        for _ in range(25):
            journey = walked(rng, "abc", rng.randint(3, 6))
            for size in (2, 3, 4):
                those = {four for four in itertools.product(range(-1, 8), repeat=4) if self.crosses(journey, size, four)}
                for four in itertools.product(range(-1, 8), repeat=4):
                    self.assertIs(is_crossing_by(journey, size, four), four in those)
                self.assertIs(crossing_by(journey, size) is None, those == set())

    def crosses(self, journey, size, four):
        """Whether the four indexes are as the document says, word by word."""
        one, inner, other, late = four
        if not (0 <= one < inner <= other < late <= len(journey) + 1 - size):
            return False
        at = {index: journey[index:index + size - 1] for index in four}
        return at[one] == at[other] and at[inner] == at[late] and journey[one + size - 1] != journey[other + size - 1]

    def test_windows_at_random(self):
        rng = random.Random(145)
        had = 0
        for _ in range(300):
            size = rng.randint(2, 3)
            pairs = [(walked(rng, "abc", size - 1), rng.randint(0, 2)) for _ in range(rng.randint(0, 3))]
            windows = Windows(size, walked(rng, "abc", size - 2), pairs)
            those = self.with_windows(windows)
            had += those != []
            self.assertEqual((how_many_with(windows), all_with(windows)), (len(those), those))
            self.assertEqual(some_with(windows), those[0] if those else None)
            self.assertIs(why_none_with(windows) is None, those != [])
            if size == 2:
                self.assertIs(is_had(windows.as_counts()), those != [])
            while windows.size > 2:
                counts, windows = windows.as_counts(), windows.narrower()
                self.assertEqual(windows.as_counts(), counts)
            self.assertEqual(windows.as_counts().steps, tuple((*row, number) for row, number in windows.pairs))
        self.assertGreater(had, 30)

    def with_windows(self, windows):
        """All journeys that have the windows, by going on from the head in all ways."""
        rows = [windows.head]
        for _ in range(windows.total):
            rows = [(*row, place) for row in rows for place in "abc" if (*row, place)[-windows.size:] in windows]
        return sorted(row for row in rows if own_windows(row, windows.size) == (windows.head, windows.pairs))


class Edges(Raising):
    def test_the_least_journey(self):
        windows = Windows.of(("m",), 2)
        self.assertEqual((windows.size, windows.head, windows.pairs, windows.total), (2, ("m",), (), 0))
        self.assertEqual((how_many_with(windows), some_with(windows), all_with(windows)), (1, ("m",), [("m",)]))
        self.assertEqual((numbers_by(("m",)), told_apart(("m",), ("n",)), told_apart(("m",), ("m", "n"))), ([1], 2, 2))
        self.assertEqual((twin_by(("m",), 2), window_for_all(Counts("m"))), (None, 2))

    def test_the_greatest_size(self):
        windows = Windows.of(TRIP, 6)
        self.assertEqual((windows.head, windows.pairs, windows.total), (TRIP, (), 0))
        self.assertEqual((how_many_with(windows), some_with(windows)), (1, TRIP))
        self.assertEqual(Windows.of(TRIP, 5).pairs, ((TRIP, 1),))
        self.assertIs(is_told_by(TRIP, 6), True)

    def test_no_size(self):
        calls = [lambda size: Windows.of(TRIP, size), lambda size: is_told_by(TRIP, size),
                 lambda size: crossing_by(TRIP, size), lambda size: twin_by(TRIP, size),
                 lambda size: is_crossing_by(TRIP, size, (0, 2, 2, 4)), lambda size: is_crossing_by(TRIP, size, None)]
        for size in [-GREAT, -1, 0, 1, 7, 8, GREAT]:
            for call in calls:
                self.check_raises(NoSize, {"number": size}, lambda: call(size))
        self.check_raises(NoSize, {"number": 2}, TOLD.narrower)
        self.check_raises(NoSize, {"number": 2}, LOST[3][0].narrower)
        self.check_raises(NoSize, {"number": 3}, lambda: Windows.of(("a",), 3))

    def test_numbers_are_added(self):
        windows = Windows(2, ("a",), ((("a", "b"), 2), (("b", "a"), 0), (("a", "b"), GREAT), (("a", "a" * 8), 1)))
        self.assertEqual(windows.pairs, ((("a", "aaaaaaaa"), 1), (("a", "b"), GREAT + 2)))
        self.assertEqual((windows["a", "b"], windows["b", "a"], ("b", "a") in windows), (GREAT + 2, 0, False))
        self.assertEqual(windows.total, GREAT + 3)

    def test_why_none(self):
        for windows, why in LOST:
            self.assertEqual(why_none_with(windows), why)
            self.assertEqual((how_many_with(windows), some_with(windows), all_with(windows, most=0)), (0, None, []))

    def test_narrower_of_what_no_journey_has(self):
        self.assertEqual(LOST[0][0].narrower(), Windows(2, ("a",), [(("a", "b"), 2), (("b", "c"), 1)]))
        self.assertEqual(LOST[0][0].as_counts(), Counts("a", (("a", "b", 2), ("b", "c", 1))))

    def test_most(self):
        self.check_raises(TooMany, {"most": 1}, lambda: all_with(TOLD, most=1))
        self.check_raises(TooMany, {"most": 0}, lambda: all_with(Windows.of(TRIP, 6), most=0))
        self.assertEqual(len(all_with(TOLD, most=2)), 2)
        self.check_raises(TooMany, {"most": 1}, lambda: window_for_all(Counts.of(TRIP), most=1))
        self.assertEqual(window_for_all(Counts.of(TRIP), most=2), 3)
        with self.assertRaises(TypeError):
            all_with(TOLD, 2)
        for counts in NOT_HAD:
            self.check_raises(NoJourney, {}, lambda: window_for_all(counts, most=0))

    def test_what_is_no_crossing(self):
        for thing in [*ODD_THINGS, [0, 2, 2, 4], (0, 2, 2), (0, 2, 2, 4, 4), (False, 2, 2, 4), (0, 2, 2, True),
                      ("0", 2, 2, 4), (0, 2, 2, None), (0, 2, 2, (4,)), (0, 2, 2, GREAT), (-GREAT, 2, 2, 4), TOLD]:
            self.assertIs(is_crossing_by(TRIP, 2, thing), False)

    def test_equality(self):
        for thing in [Windows.of(TRIP, 3), Windows(2, ("b",), TOLD.pairs), Windows(2, ("a",)), TOLD.as_counts(), 2,
                      None, TOLD.pairs, (TOLD.head, TOLD.pairs)]:
            self.assertIs(TOLD == thing, False)
            self.assertIs(thing == TOLD, False)
        self.assertIs(TOLD != Windows(2, ["a"], reversed(TOLD.pairs)), False)

    def test_no_iteration_and_no_setters(self):
        for call in [iter, list, sorted]:
            with self.assertRaises(TypeError):
                call(TOLD)
        for name in ["size", "head", "pairs", "total"]:
            with self.assertRaises(AttributeError):
                setattr(TOLD, name, getattr(TOLD, name))


class HowArgumentsCome(unittest.TestCase):
    def test_lists_for_tuples(self):
        pairs = [[["a", "b"], 1], (["b", "a"], 1), [("a", "c"), 1], (("c", "a"), 1)]
        windows = Windows(2, ["a"], pairs)
        self.assertEqual((windows, windows.head, windows.pairs), (TOLD, ("a",), TOLD.pairs))
        self.assertEqual((windows[["a", "b"]], ["a", "b"] in windows, ["b", "c"] in windows), (1, True, False))
        row = list(TRIP)
        self.assertEqual(Windows.of(row, 3), Windows.of(TRIP, 3))
        for call in [is_told_by, crossing_by, twin_by]:
            self.assertEqual(call(row, 2), call(TRIP, 2))
        self.assertIs(is_crossing_by(row, 2, (0, 2, 2, 4)), True)
        self.assertEqual((least_window(row), numbers_by(row), told_apart(row, TRIP), told_apart(row, ["a"])),
                         (3, [2, 1], None, 2))
        self.assertEqual((row, pairs[0]), (list(TRIP), [["a", "b"], 1]))

    def test_objects_copy_their_arguments(self):
        head, window = ["a"], ["a", "b"]
        pairs = [[window, 1]]
        windows = Windows(2, head, pairs)
        head.append("b")
        window[0] = "z"
        pairs.clear()
        self.assertEqual((windows.head, windows.pairs, windows["a", "b"]), (("a",), ((("a", "b"), 1),), 1))

    def test_by_name(self):
        windows = Windows(pairs=TOLD.pairs, head=("a",), size=2)
        self.assertEqual((windows, Windows.of(size=2, journey=TRIP)), (TOLD, TOLD))
        for call in [why_none_with, how_many_with, some_with, all_with]:
            self.assertEqual(call(windows=TOLD), call(TOLD))
        for call in [is_told_by, crossing_by, twin_by]:
            self.assertEqual(call(size=2, journey=TRIP), call(TRIP, 2))
        self.assertIs(is_crossing_by(thing=(0, 2, 2, 4), size=2, journey=TRIP), True)
        self.assertEqual((least_window(journey=FAR), numbers_by(journey=FAR), told_apart(other=FAR, one=TRIP)),
                         (4, [2, 2, 1], 2))
        self.assertEqual(window_for_all(most=9, counts=Counts.of(TRIP)), 3)

    def test_returned_values(self):
        all_with(TOLD).clear()
        numbers_by(TRIP).clear()
        self.assertEqual((len(all_with(TOLD)), numbers_by(TRIP)), (2, [2, 1]))
        for value in [TOLD.head, TOLD.pairs, TOLD.pairs[0], TOLD.pairs[0][0], some_with(TOLD), all_with(TOLD)[1],
                      crossing_by(list(TRIP), 2), twin_by(list(TRIP), 2), why_none_with(LOST[0][0])[1]]:
            self.assertIs(value.__class__, tuple)


class AtTheBounds(unittest.TestCase):
    def test_journeys_of_sixty_one_places(self):
        journey = walked(random.Random(146), "abc", 60)
        for size in range(2, 63):
            windows = Windows.of(journey, size)
            self.assertEqual(windows.total, 62 - size)
            self.assertIs(how_many_with(windows) == 1, is_told_by(journey, size))
            twin = twin_by(journey, size)
            if twin is not None:
                self.assertEqual(Windows.of(twin, size), windows)
                self.assertIs(is_journey(twin) and twin != journey, True)
        self.assertEqual(by_the_words(journey[:30]), least_window(journey[:30]))
        for row in [("a", "b") * 30 + ("a",), ("a", "b") * 30 + ("c",), ("a", "b", "c") * 20 + ("a",)]:
            self.assertEqual((least_window(row), numbers_by(row[-20:])), (2, [1]))
        self.assertEqual(told_apart(("a",) + ("b", "c") * 30, ("b", "c") * 30 + ("b",)), 2)
        late = ("a", "b") * 14 + ("c", "d") + ("a", "b") * 14 + ("e",)
        self.assertEqual(least_window(late + ("c", "d")), by_the_words(late + ("c", "d")))

    def test_numbers_by_twenty_places(self):
        journey = walked(random.Random(147), "abc", 19)
        numbers = numbers_by(journey)
        self.assertEqual((numbers[-1], numbers), (1, sorted(numbers, reverse=True)))

    def test_all_with_sixty_windows(self):
        # Each x is left first to its y and back: that it is left so at last is a way that leads to no journey.
        names = ["".join(pair) for pair in itertools.product("pqrs", "abcdefgh")]
        aside = [place for x, y in zip(names[:15], reversed(names[15:30])) for place in (x, y, x)]
        journey = (*aside, "m", "a", "m", "b", "m", "c", "m", "d", "m", "e", "m", "f", "m")
        windows = Windows.of(journey, 2)
        self.assertLessEqual(windows.total, 60)
        listed = all_with(windows)
        self.assertEqual((len(listed), listed), (720, sorted(set(listed))))
        self.assertEqual((listed[0], how_many_with(windows), some_with(windows)), (journey, 720, journey))

    def test_window_for_all_of_two_thousand(self):
        counts = Counts("a", (("a", "b", 16), ("b", "d", 16), ("c", "a", 12), ("d", "a", 4), ("d", "c", 12)))
        size = window_for_all(counts)
        journeys = all_journeys(counts)
        self.assertEqual(len({(Windows.of(row, size).head, Windows.of(row, size).pairs) for row in journeys}), 1820)
        self.assertLess(len({(Windows.of(row, size - 1).head, Windows.of(row, size - 1).pairs) for row in journeys}),
                        1820)


if __name__ == "__main__":
    unittest.main()
