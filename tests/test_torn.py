"""Points 1 (b), 2, 3 and 9: torn diaries."""

import itertools
import math
import random
import unittest

from countedsteps.counts import Counts
from countedsteps.errors import BadLists, NoJourney, NoNumber, NoPlace, Unlike
from countedsteps.journeys import exits
from countedsteps.ranks import Journeys
from countedsteps.torn import Torn, fewest_members, members_for, notes_of
from countedsteps.trees import exit_lists
from helping import NOT_HAD, Raising, followed, ratio, short_journeys, small_counts, walked

SIX = Counts("a", (("a", "b", 1), ("a", "c", 1), ("b", "a", 1), ("b", "c", 1), ("c", "a", 1), ("c", "b", 1)))
TORN = Torn(SIX, (("b", ("c", "?")),))
TRIP, LATE = ("a", "b", "a", "c"), ("a", "b", "c", "a", "c", "b", "a")
NONE = Torn(Counts.of(TRIP), (("a", ("c", "b")),))


def fitting(journeys, notes):
    """Those of the journeys whose exit lists are as the notes tell."""
    return [journey for journey in journeys
            if all(all(told in ("?", other) for told, other in zip(row, exits(journey, place)))
                   for place, row in notes)]


def some_notes(rng, counts, journeys):
    """Notes of one of the journeys, some places left out, sometimes with two members exchanged."""
    notes = []
    for place, row in exit_lists(rng.choice(journeys)):
        read = [other if rng.random() < 0.5 else "?" for other in row]
        if rng.random() < 0.2:
            rng.shuffle(read)
        if rng.random() < 0.8:
            notes.append((place, tuple(read)))
    return tuple(notes)


def cases(seed, many=120):
    """Counts, all their journeys, and notes."""
    rng = random.Random(seed)
    for counts in small_counts(seed, many=many // 2):
        journeys = followed(counts)
        for _ in range(2):
            yield counts, journeys, some_notes(rng, counts, journeys)


class DocumentExamples(Raising):
    def test_torn(self):
        self.assertEqual(TORN.many, 4)
        self.assertEqual(TORN.notes, (("a", ("?", "?")), ("b", ("c", "?")), ("c", ("?", "?"))))
        self.assertEqual((TORN.first, TORN[1]), (LATE, ("a", "b", "c", "b", "a", "c", "a")))
        self.assertEqual(TORN.last, ("a", "c", "b", "c", "a", "b", "a"))
        self.assertEqual(TORN.rank(("a", "c", "a", "b", "c", "b", "a")), 2)
        self.assertEqual(TORN.between(("a", "c")), (2, 4))
        self.assertIs(("a", "b", "a", "c", "b", "c", "a") in TORN, False)
        self.assertIs(Torn(SIX) == Torn(SIX, (("a", ("?", "?")),)), True)

    def test_members(self):
        self.assertEqual((TORN.may_stand("a", 0), TORN.may_stand("b", 1)), (("b", "c"), ("a",)))
        self.assertEqual((TORN.share("a", 0, "c"), TORN.share("b", 0, "a")), ((1, 2), (0, 1)))
        self.assertEqual(TORN.sure(), (("a", ("?", "?")), ("b", ("c", "a")), ("c", ("?", "?"))))
        more = TORN.read("c", 0, "a")
        self.assertEqual((more.many, more.needless(), TORN.needless()), (2, (("b", 0),), ()))
        self.assertIs(TORN.twin(TORN.first) in TORN, True)

    def test_fewest_members(self):
        self.assertEqual([fewest_members(row) for row in [TRIP, ("a", "b", "a", "c", "a"), LATE]], [0, 1, 2])
        self.assertEqual(notes_of(LATE, (("a", 0), ("c", 0))),
                         (("a", ("b", "?")), ("b", ("?", "?")), ("c", ("a", "?"))))
        self.assertEqual(Torn(SIX, notes_of(LATE, members_for(LATE))).many, 1)
        self.assertEqual((NONE.many, NONE.sure()), (0, None))

    def test_errors(self):
        self.check_raises(BadLists, {"place": "b"}, lambda: TORN.read("b", 1, "c"))
        self.check_raises(Unlike, {}, lambda: TORN.rank(("a", "b", "a", "c", "b", "c", "a")))
        self.check_raises(NoNumber, {"number": 0}, lambda: notes_of(TRIP, (("a", 1), ("c", 0))))


class AgainstAllJourneys(Raising):
    def test_those_that_fit(self):
        for counts, journeys, notes in cases(91):
            fits = fitting(journeys, notes)
            torn = Torn(counts, notes)
            self.assertEqual((torn.many, torn.counts), (len(fits), counts))
            self.assertEqual((torn.first, torn.last), (fits[0], fits[-1]) if fits else (None, None))
            for number in sorted({0, 1, len(fits) // 2, len(fits) - 1} & set(range(len(fits)))):
                self.assertEqual((torn[number], torn.rank(fits[number])), (fits[number], number))
            for number in [-1, len(fits), len(fits) + 3]:
                self.check_raises(NoNumber, {"number": number}, lambda: torn[number])
            for journey in journeys[:5] + journeys[-5:]:
                self.assertIs(journey in torn, journey in fits)
                if journey not in fits:
                    self.check_raises(Unlike, {}, lambda: torn.rank(journey))

    def test_between(self):
        for counts, journeys, notes in cases(92, many=40):
            fits = fitting(journeys, notes)
            torn = Torn(counts, notes)
            for row in self.rows(counts, journeys):
                first = len([journey for journey in fits if journey < row])
                begin = len([journey for journey in fits if journey[:len(row)] == row])
                self.assertEqual(torn.between(row), (first, first + begin))

    def rows(self, counts, journeys):
        """Rows of all kinds: neighbours alike, places that do not occur, another start, too long."""
        for length in range(1, 4):
            yield from itertools.product([*counts.places[:2], "bb"], repeat=length)
        for journey in [journeys[0], journeys[-1]]:
            for length in range(1, len(journey) + 1):
                yield from [journey[:length], (*journey[:length], "a"), (*journey[:length], "zz")]

    def test_members(self):
        for counts, journeys, notes in cases(93):
            fits = fitting(journeys, notes)
            torn = Torn(counts, notes)
            sure = []
            for place, row in torn.notes:
                stand = [sorted({exits(journey, place)[at] for journey in fits}) for at in range(len(row))]
                self.assertEqual([torn.may_stand(place, at) for at in range(len(row))], list(map(tuple, stand)))
                sure.append((place, tuple(others[0] if len(others) == 1 else "?" for others in stand)))
                self.check_shares(torn, fits, place, len(row))
            self.assertEqual(torn.sure(), tuple(sure) if fits else None)

    def check_shares(self, torn, fits, place, length):
        for at, other in itertools.product(range(length), ["a", "b", "zz", place]):
            if fits:
                part = [journey for journey in fits if exits(journey, place)[at] == other]
                self.assertEqual(torn.share(place, at, other), ratio(len(part), len(fits)))
            else:
                self.check_raises(NoJourney, {}, lambda: torn.share(place, at, other))

    def test_read(self):
        for counts, journeys, notes in cases(94, many=60):
            torn = Torn(counts, notes)
            for place, row in torn.notes:
                for at, other in itertools.product(range(len(row)), [*counts.places, "zz"]):
                    self.check_read(torn, journeys, place, at, other)

    def check_read(self, torn, journeys, place, at, other):
        row = dict(torn.notes)[place]
        often = row[:at].count(other) + row[at + 1:].count(other) + 1
        if row[at] not in ("?", other) or often > torn.counts[place, other]:
            self.check_raises(BadLists, {"place": place}, lambda: torn.read(place, at, other))
        else:
            more = torn.read(place, at, other)
            notes = tuple((one, told if one != place else (*told[:at], other, *told[at + 1:]))
                          for one, told in torn.notes)
            self.assertEqual((more.notes, more.many), (notes, len(fitting(journeys, notes))))
            self.assertEqual(more, Torn(torn.counts, notes))

    def test_needless(self):
        for counts, journeys, notes in cases(95):
            torn = Torn(counts, notes)
            fits = fitting(journeys, notes)
            needless = []
            for place, row in torn.notes:
                for at, member in enumerate(row):
                    less = [(one, told if one != place else (*told[:at], "?", *told[at + 1:]))
                            for one, told in torn.notes]
                    if member != "?" and fitting(journeys, less) == fits:
                        needless.append((place, at))
            self.assertEqual(torn.needless(), tuple(needless))

    def test_twin(self):
        for counts, journeys, notes in cases(96):
            fits = fitting(journeys, notes)
            torn = Torn(counts, notes)
            for journey in fits[:4] + fits[-4:]:
                twin = torn.twin(journey)
                self.assertEqual(twin is None, len(fits) == 1)
                self.assertEqual(torn.twin(list(journey)), twin)
                if twin is not None:
                    self.assertIn(twin, fits)
                    unlike = [place for place in counts.places if exits(twin, place) != exits(journey, place)]
                    self.assertEqual(len(unlike), 1)

    def test_fewest_members(self):
        rng = random.Random(97)
        for journey in [*short_journeys("abc", 5), *[walked(rng, "abcd", 7) for _ in range(25)]]:
            journeys = followed(Counts.of(journey))
            members = [(place, at) for place, row in exit_lists(journey) for at in range(len(row))]
            found = members_for(journey)
            self.assertEqual(found, tuple(sorted(set(found))))
            self.assertLessEqual(set(found), set(members))
            self.assertEqual(fewest_members(journey), len(found))
            self.assertEqual(fitting(journeys, notes_of(journey, found)), [journey])
            for fewer in itertools.combinations(members, max(len(found) - 1, 0)):
                self.assertTrue(not found or len(fitting(journeys, notes_of(journey, fewer))) > 1)


class Notes(Raising):
    def test_rows_that_are_added_and_left_out(self):
        counts = Counts.of(("a", "b", "a", "c"))
        torn = Torn(counts, (("a", ("b", "?")), ("c", ()), ("zz", ())))
        self.assertEqual(torn.notes, (("a", ("b", "?")), ("b", ("?",))))
        self.assertEqual(Torn(counts).notes, (("a", ("?", "?")), ("b", ("?",))))
        self.assertEqual(torn, Torn(counts, torn.notes))

    def test_without_steps(self):
        torn = Torn(Counts("m"), (("m", ()),))
        self.assertEqual((torn.many, torn.notes, torn.first, torn.last, torn[0]), (1, (), ("m",), ("m",), ("m",)))
        self.assertEqual((torn.sure(), torn.needless(), torn.twin(("m",)), ("m",) in torn), ((), (), None, True))
        self.assertEqual((members_for(("m",)), fewest_members(("m",)), notes_of(("m",), ())), ((), 0, ()))
        self.check_raises(NoNumber, {"number": 0}, lambda: torn.may_stand("m", 0))

    def test_none_fits(self):
        self.assertEqual((NONE.many, NONE.first, NONE.last, NONE.between(("b",))), (0, None, None, (0, 0)))
        self.assertEqual((NONE.may_stand("a", 0), NONE.may_stand("b", 0)), ((), ()))
        # The members that are left force the one that is not read, and so none fits without it, too.
        self.assertEqual(NONE.needless(), (("a", 0), ("a", 1)))
        self.assertEqual(NONE.read("b", 0, "a").needless(), (("a", 0), ("a", 1), ("b", 0)))
        self.check_raises(NoNumber, {"number": 0}, lambda: NONE[0])
        self.check_raises(Unlike, {}, lambda: NONE.rank(TRIP))
        self.check_raises(Unlike, {}, lambda: NONE.twin(TRIP))
        self.check_raises(NoJourney, {}, lambda: NONE.share("a", 0, "b"))
        self.assertIs(TRIP in NONE, False)

    def test_bad_lists_for_the_first_place(self):
        for notes, place in [
                ((("a", ("b",)),), "a"), ((("a", ("b", "?", "?")),), "a"), ((("a", ()),), "a"),
                ((("a", ("b", "b")),), "a"), ((("a", ("?", "x")),), "a"), ((("a", ("a", "?")),), "a"),
                ((("a", ("b", "?")), ("b", ("c", "c")), ("c", ("?",))), "b"), ((("x", ("?",)),), "x"),
                ((("b", ("a", "c")), ("c", ("x", "?")), ("x", ("a",))), "c")]:
            self.check_raises(BadLists, {"place": place}, lambda: Torn(SIX, notes))
        self.check_raises(BadLists, {"place": "c"}, lambda: Torn(Counts.of(TRIP), (("c", ("?",)),)))

    def test_no_journey_ahead_of_bad_lists(self):
        for counts in NOT_HAD:
            self.check_raises(NoJourney, {}, lambda: Torn(counts))
            self.check_raises(NoJourney, {}, lambda: Torn(counts, (("a", ("?",) * 9),)))


class Members(Raising):
    def test_no_place_then_no_number(self):
        for call in [lambda *member: TORN.may_stand(*member), lambda *member: TORN.share(*member, "a"),
                     lambda *member: TORN.read(*member, "a"), lambda *member: NONE.share(*member, "x")]:
            for place in ["x", "zz"]:
                self.check_raises(NoPlace, {"place": place}, lambda: call(place, -1))
            for number in [-1, 2, 10 ** 30]:
                self.check_raises(NoNumber, {"number": number}, lambda: call("a", number))
        self.check_raises(NoNumber, {"number": 0}, lambda: NONE.read("c", 0, "a"))

    def test_read_what_is_read(self):
        self.assertEqual(TORN.read("b", 0, "c"), TORN)
        self.check_raises(BadLists, {"place": "b"}, lambda: TORN.read("b", 0, "a"))
        self.check_raises(BadLists, {"place": "b"}, lambda: TORN.read("b", 1, "x"))
        self.check_raises(BadLists, {"place": "b"}, lambda: TORN.read("b", 1, "b"))
        self.assertEqual(TORN.notes[1], ("b", ("c", "?")))

    def test_notes_of(self):
        self.assertEqual(notes_of(TRIP, ()), (("a", ("?", "?")), ("b", ("?",))))
        self.assertEqual(notes_of(TRIP, (("a", 1), ("b", 0))), (("a", ("?", "c")), ("b", ("a",))))
        for members, error, values in [
                ((("a", 2),), NoNumber, {"number": 2}), ((("a", -1),), NoNumber, {"number": -1}),
                ((("x", 0),), NoPlace, {"place": "x"}), ((("x", -1), ("a", 5)), NoPlace, {"place": "x"}),
                ((("a", 5), ("x", 0)), NoNumber, {"number": 5}), ((("c", 0),), NoNumber, {"number": 0})]:
            self.check_raises(error, values, lambda: notes_of(TRIP, members))


class Equality(Raising):
    def test_equality(self):
        self.assertIs(Torn(SIX, [["b", ["c", "?"]]]) == TORN, True)
        self.assertIs(Torn(SIX, [["b", ["c", "?"]]]) != TORN, False)
        # These have the same journeys, but unlike notes.
        self.assertIs(TORN == TORN.read("b", 1, "a"), False)
        for thing in [Torn(SIX), Torn(SIX.begun("b")), SIX, Journeys(SIX), None, 4, (), TORN.notes, "a"]:
            self.assertIs(TORN == thing, False)
            self.assertIs(thing == TORN, False)
        self.assertIs(Journeys(SIX) == Torn(SIX), False)

    def test_no_iteration_and_no_setters(self):
        for call in [iter, list, sorted]:
            with self.assertRaises(TypeError):
                call(TORN)
        for name in ["counts", "notes", "many", "first", "last"]:
            with self.assertRaises(AttributeError):
                setattr(TORN, name, getattr(TORN, name))


class HowArgumentsCome(unittest.TestCase):
    def test_lists_for_tuples(self):
        notes = [["b", ["c", "?"]]]
        torn = Torn(SIX, notes)
        self.assertEqual(notes, [["b", ["c", "?"]]])
        notes[0][1][0] = "a"
        notes.append(["c", ["a", "?"]])
        self.assertEqual((torn, torn.notes, torn.many), (TORN, TORN.notes, 4))
        self.assertEqual((torn.rank(list(LATE)), torn.between(["a", "c"]), list(LATE) in torn), (0, (2, 4), True))
        self.assertEqual(notes_of(list(LATE), [["a", 0], ["c", 0]]), notes_of(LATE, (("a", 0), ("c", 0))))
        self.assertEqual((members_for(list(LATE)), fewest_members(list(LATE))), (members_for(LATE), 2))

    def test_by_name(self):
        torn = Torn(notes=(("b", ("c", "?")),), counts=SIX)
        self.assertEqual((torn.rank(journey=LATE), torn.between(row=("a", "c"))), (0, (2, 4)))
        self.assertEqual(torn.may_stand(number=0, place="a"), ("b", "c"))
        self.assertEqual(torn.share(other="c", number=0, place="a"), (1, 2))
        self.assertEqual(torn.read(other="a", number=0, place="c"), torn.read("c", 0, "a"))
        self.assertEqual(torn.twin(journey=LATE), torn.twin(LATE))
        self.assertEqual(notes_of(members=(("a", 0),), journey=TRIP), notes_of(TRIP, (("a", 0),)))
        self.assertEqual((members_for(journey=TRIP), fewest_members(journey=TRIP)), ((), 0))

    def test_kinds_of_values(self):
        for value in [TORN.notes, TORN.first, TORN[0], TORN.may_stand("a", 0), TORN.share("a", 0, "b"), TORN.sure(),
                      TORN.needless(), TORN.twin(LATE), notes_of(LATE, ()), members_for(LATE), TORN.notes[0][1]]:
            self.assertIs(value.__class__, tuple)


class AtTheBounds(unittest.TestCase):
    def test_sixty_steps(self):
        counts = Counts("a", [(*pair, 2) for pair in itertools.permutations("abcdef", 2)])
        journey = Journeys(counts)[Journeys(counts).many // 7]
        notes = notes_of(journey, [(place, at) for place in "abcdef" for at in (0, 3, 5, 9)])
        torn = Torn(counts, notes)
        number = torn.rank(journey)
        self.assertEqual((torn[number], torn.counts.total), (journey, 60))
        self.assertLess(torn.many, Journeys(counts).many)
        self.assertEqual(torn.sure()[0][1][0], exits(journey, "a")[0])
        shares = [torn.share("b", 1, other) for other in counts.nexts("b")]
        common = math.lcm(*[lower for _, lower in shares])
        self.assertEqual(sum(upper * common // lower for upper, lower in shares), common)
        self.assertIsInstance(torn.needless(), tuple)
        self.assertIn(torn.twin(journey), torn)
        self.assertEqual(Torn(counts, notes_of(journey, members_for(journey))).many, 1)


if __name__ == "__main__":
    unittest.main()
