"""Points 1 (d), 2, 3 and 11: passings."""

import itertools
import random
import unittest

from countedsteps.counts import Counts
from countedsteps.errors import BadTable, NoJourney, NoNumber, NoPlace
from countedsteps.passings import (
    arrivals, can_pass, can_pass_all, departures, is_table, journey_passing, may_pass, must_pass, pass_all_journey,
    pass_journey, pass_range, passings, pieces_without, range_journeys, why_no_table,
)
from helping import GREAT, NOT_HAD, ODD_THINGS, Raising, followed, short_journeys, small_counts

RING = Counts("a", (("a", "v", 2), ("v", "a", 1), ("v", "b", 1), ("b", "v", 1)))
HOME = Counts("v", (("v", "a", 1), ("a", "v", 1)))
BIG = Counts("a", (("a", "v", GREAT), ("v", "a", GREAT), ("v", "b", 5), ("b", "v", 5)))
CROSS = Counts("a", [(one, other, 1) for pair in ["av", "bv", "aw", "bw"] for one, other in [pair, pair[::-1]]])
BACK = ((("a", "a"), 1), (("b", "b"), 1))


def passed_by_hand(journey, place):
    """The TABLE of the journey at the place."""
    row = ("-", *journey, "-")
    met = [(one, other) for one, here, other in zip(row, row[1:], row[2:]) if here == place]
    return tuple(sorted((pair, met.count(pair)) for pair in set(met)))


def sums(table, at):
    """The rows (at 0) or the columns (at 1) of the table."""
    names = sorted({pair[at] for pair, _ in table})
    return tuple((name, sum(many for pair, many in table if pair[at] == name)) for name in names)


def all_tables(rows, columns):
    """All TABLEs with these rows and columns."""
    if not rows:
        return [()] if all(number == 0 for _, number in columns) else []
    (one, many), made = rows[0], []
    for numbers in itertools.product(*[range(min(many, number) + 1) for _, number in columns]):
        if sum(numbers) == many:
            left = [(name, number - taken) for (name, number), taken in zip(columns, numbers)]
            part = tuple(((one, name), taken) for (name, _), taken in zip(columns, numbers) if taken)
            made.extend(tuple(sorted(part + rest)) for rest in all_tables(rows[1:], left))
    return made


def number_in(table, one, other):
    return dict(table).get((one, other), 0)


def pieces_by_hand(counts, place):
    """The pieces without the place, by joining until nothing changes."""
    sets = [{one, other} - {place} for one, other, _ in counts.steps]
    sets = [{one, other} for one, other, _ in counts.steps if place not in (one, other)] + [
        part for part in sets if len(part) == 1]
    if counts.start == place or followed(counts)[0][-1] == place:
        sets.append({"-"})
    joined = []
    for part in sets:
        touching = [piece for piece in joined if piece & part]
        joined = [piece for piece in joined if not piece & part] + [part.union(*touching)]
    return sorted(tuple(sorted(piece)) for piece in joined)


class DocumentExamples(Raising):
    def test_tables(self):
        self.assertEqual(passings(("a", "v", "a", "v", "b", "v"), "v"),
                         ((("a", "a"), 1), (("a", "b"), 1), (("b", "-"), 1)))
        self.assertEqual(passings(("v", "a", "v"), "v"), ((("-", "a"), 1), (("a", "-"), 1)))
        self.assertEqual(passings(("a",), "v"), ())
        self.assertEqual((arrivals(RING, "v"), departures(RING, "v")),
                         ((("a", 2), ("b", 1)), (("-", 1), ("a", 1), ("b", 1))))
        self.assertEqual((pieces_without(RING, "v"), pieces_without(RING, "b")),
                         ([("-",), ("a",), ("b",)], [("a", "v")]))

    def test_ring(self):
        self.assertEqual([pass_range(RING, "a", "v", "a"), pass_range(RING, "a", "v", "b")], [(0, 1), (1, 1)])
        self.assertEqual([pass_range(RING, "b", "v", "b"), pass_range(RING, "v", "v", "a")], [(0, 0), (0, 0)])
        self.assertEqual(must_pass(RING, "v"), (("a", "b"),))
        self.assertEqual(may_pass(RING, "v"), (("a", "-"), ("a", "a"), ("a", "b"), ("b", "-"), ("b", "a")))
        self.assertEqual(range_journeys(RING, "a", "v", "a"),
                         (("a", "v", "b", "v", "a", "v"), ("a", "v", "a", "v", "b", "v")))
        table = ((("a", "-"), 1), (("a", "b"), 1), (("b", "a"), 1))
        self.assertEqual(pass_journey(RING, "v", table), ("a", "v", "b", "v", "a", "v"))
        self.assertEqual(why_no_table(RING, "v", ((("a", "-"), 1), (("a", "a"), 1), (("b", "b"), 1))),
                         ("apart", ("b",)))
        self.assertEqual(why_no_table(RING, "v", ((("a", "b"), 2), (("b", "-"), 1))), ("column", "a"))
        self.check_raises(NoNumber, {"number": 2}, lambda: journey_passing(RING, "a", "v", "a", 2))

    def test_home(self):
        self.assertIs(can_pass(HOME, "v", ((("-", "a"), 1), (("a", "-"), 1))), True)
        self.assertEqual(why_no_table(HOME, "v", ((("-", "-"), 1), (("a", "a"), 1))), ("apart", ("a",)))

    def test_great(self):
        self.assertEqual(pass_range(BIG, "a", "v", "a"), (GREAT - 5, GREAT - 1))
        self.assertEqual((pass_range(BIG, "a", "v", "b"), pass_range(BIG, "b", "v", "b")), ((1, 5), (0, 4)))

    def test_cross(self):
        self.assertEqual(pass_range(CROSS, "a", "v", "b"), (0, 1))
        self.assertEqual(pass_range(CROSS, "a", "v", "b", told=(("w", BACK),)), (1, 1))
        self.assertIs(can_pass_all(CROSS, (("v", BACK), ("w", BACK))), False)
        tables = (("v", ((("a", "b"), 1), (("b", "a"), 1))), ("w", BACK))
        self.assertEqual(passings(pass_all_journey(CROSS, tables), "w"), BACK)
        self.check_raises(BadTable, {}, lambda: pass_range(CROSS, "a", "v", "b", told=(("w", BACK[:1]),)))


class OneJourney(unittest.TestCase):
    def test_passings(self):
        for journey in short_journeys("abc", 5):
            for place in "abcd":
                table = passings(journey, place)
                self.assertEqual(table, passed_by_hand(journey, place))
                self.assertIs(is_table(table), True)
                self.assertEqual(passings(list(journey), place), table)

    def test_is_table(self):
        good = ((("-", "a"), 1), (("a", "a"), GREAT), (("a", "b"), 2))
        for thing in [(), good, good[1:], ((("-", "-"), 3),), ((("a", "-"), 1),)]:
            self.assertIs(is_table(thing), True)
        for thing in ODD_THINGS:
            self.assertIs(is_table(thing), False, thing)
        for thing in [list(good), good[::-1], (good[0], good[0]), ((("a", "b"), 1), (("a", "b"), 2)),
                      ((("a", "b"), 0),), ((("a", "b"), -1),), ((("a", "b"), True),), ((("a", "b"), "1"),),
                      ([("a", "b"), 1],), ((["a", "b"], 1),), ((("a", "b", "c"), 1),), ((("a",), 1),),
                      ((("a", "B"), 1),), ((("a", "--"), 1),), ((("a", "?"), 1),), ((("", "a"), 1),), (("ab", 1),),
                      ((("a", "b"), 1, 1),), ((("a", "b"),),), ((("a", None), 1),), ((("a", Counts("a")), 1),),
                      (("a", "b"), 1), ((("a", "abcdefghi"), 1),), (((("a",), "b"), 1),), ((("a", "b"), (1,)),)]:
            self.assertIs(is_table(thing), False, thing)


class AgainstAllJourneys(Raising):
    def test_what_all_have(self):
        for counts in small_counts(111, many=60):
            for place in counts.places:
                for journey in followed(counts)[:3]:
                    table = passed_by_hand(journey, place)
                    self.assertEqual((arrivals(counts, place), departures(counts, place)),
                                     (sums(table, 0), sums(table, 1)))
                self.assertEqual(pieces_without(counts, place), pieces_by_hand(counts, place))

    def test_tables(self):
        for counts in small_counts(112, many=60):
            journeys = followed(counts)
            for place in counts.places:
                had = {passed_by_hand(journey, place) for journey in journeys}
                made = all_tables(arrivals(counts, place), departures(counts, place))
                self.assertLessEqual(had, set(made))
                for table in made:
                    self.check_table(counts, place, table, table in had)

    def check_table(self, counts, place, table, had):
        self.assertIs(can_pass(counts, place, table), had)
        self.assertIs(can_pass_all(counts, ((place, table),)), had)
        why = why_no_table(counts, place, table)
        journey = pass_journey(counts, place, table)
        if had:
            self.assertIsNone(why)
            self.assertEqual((Counts.of(journey), passed_by_hand(journey, place)), (counts, table))
        else:
            self.assertIsNone(journey)
            self.assertEqual(why[0], "apart")

    def test_ranges(self):
        for counts in small_counts(113, many=15):
            journeys = followed(counts)
            for place in counts.places:
                tables = [passed_by_hand(journey, place) for journey in journeys]
                pairs = list(itertools.product(["-", *counts.places, "zz"], repeat=2))
                met = [(pair, sorted({number_in(table, *pair) for table in tables})) for pair in pairs]
                for (one, other), numbers in met:
                    self.check_range(counts, one, place, other, numbers)
                self.assertEqual(must_pass(counts, place), tuple(pair for pair, numbers in met if numbers[0] > 0))
                self.assertEqual(may_pass(counts, place), tuple(pair for pair, numbers in met if numbers[-1] > 0))

    def check_range(self, counts, one, place, other, numbers):
        self.assertEqual(numbers, list(range(numbers[0], numbers[-1] + 1)))
        self.assertEqual(pass_range(counts, one, place, other), (numbers[0], numbers[-1]))
        for number in numbers:
            journey = journey_passing(counts, one, place, other, number)
            self.assertEqual(Counts.of(journey), counts)
            self.assertEqual(number_in(passed_by_hand(journey, place), one, other), number)
        for number in [numbers[0] - 1, numbers[-1] + 1]:
            self.check_raises(NoNumber, {"number": number},
                              lambda: journey_passing(counts, one, place, other, number))
        if numbers == [0]:
            return
        pair = range_journeys(counts, one, place, other)
        self.assertEqual([Counts.of(journey) for journey in pair], [counts, counts])
        self.assertEqual([number_in(passed_by_hand(journey, place), one, other) for journey in pair],
                         [numbers[0], numbers[-1]])

    def test_told(self):
        rng = random.Random(114)
        for counts in small_counts(114, many=80):
            journeys = followed(counts)
            for place in counts.places:
                others = [one for one in counts.places if one != place]
                model = rng.choice(journeys)
                told = tuple((one, passed_by_hand(model, one)) for one in others if rng.random() < 0.6)
                self.check_told(counts, journeys, place, told)

    def check_told(self, counts, journeys, place, told):
        those = [journey for journey in journeys
                 if all(passed_by_hand(journey, one) == table for one, table in told)]
        tables = [passed_by_hand(journey, place) for journey in those]
        pairs = list(itertools.product(["-", *counts.places], repeat=2))
        met = [(pair, sorted({number_in(table, *pair) for table in tables})) for pair in pairs]
        for (one, other), numbers in met:
            self.assertEqual(numbers, list(range(numbers[0], numbers[-1] + 1)))
            self.assertEqual(pass_range(counts, one, place, other, told=told), (numbers[0], numbers[-1]))
        self.assertEqual(must_pass(counts, place, told=told), tuple(pair for pair, row in met if row[0] > 0))
        self.assertEqual(may_pass(counts, place, told=told), tuple(pair for pair, row in met if row[-1] > 0))

    def test_all_tables(self):
        rng = random.Random(115)
        for counts in small_counts(116, many=80):
            journeys = followed(counts)
            for _ in range(4):
                places = [place for place in counts.places if rng.random() < 0.7]
                # Each TABLE is that of some journey, but maybe of another one at each place.
                tables = tuple((place, passed_by_hand(rng.choice(journeys), place)) for place in places)
                those = [journey for journey in journeys
                         if all(passed_by_hand(journey, one) == table for one, table in tables)]
                self.check_all(counts, tables, those)

    def check_all(self, counts, tables, those):
        self.assertIs(can_pass_all(counts, tables), those != [])
        journey = pass_all_journey(counts, tables)
        if those:
            self.assertIn(journey, those)
        else:
            self.assertIsNone(journey)
            if tables[1:] and can_pass_all(counts, tables[1:]):
                self.check_raises(BadTable, {}, lambda: must_pass(counts, tables[0][0], told=tables))


class Reasons(Raising):
    def test_row_ahead_of_column_ahead_of_apart(self):
        # (a, 2), (b, 1) come to v; (-, 1), (a, 1), (b, 1) follow.
        for table, why in [
                ((), ("row", "a")), (((("b", "a"), 1),), ("row", "a")),
                (((("-", "a"), 1), (("a", "-"), 2), (("b", "b"), 1)), ("row", "-")),
                (((("a", "-"), 1), (("a", "a"), 1), (("b", "b"), 2)), ("row", "b")),
                (((("a", "-"), 1), (("a", "a"), 1), (("b", "b"), 1), (("c", "b"), 1)), ("row", "c")),
                (((("a", "a"), 3), (("b", "a"), 2)), ("row", "a")),
                (((("a", "a"), 1), (("a", "b"), 1), (("b", "b"), 1)), ("column", "-")),
                (((("a", "-"), 2), (("b", "b"), 1)), ("column", "-")),
                (((("a", "-"), 1), (("a", "b"), 1), (("b", "b"), 1)), ("column", "a")),
                (((("a", "-"), 1), (("a", "a"), 1), (("b", "c"), 1)), ("column", "b")),
                (((("a", "-"), 1), (("a", "b"), 1), (("b", "a"), 1)), None)]:
            self.assertEqual(why_no_table(RING, "v", table), why, table)
            self.assertIs(can_pass(RING, "v", table), why is None)
            self.assertIs(can_pass_all(RING, (("v", table),)), why is None)
            if why is not None:
                self.assertIsNone(pass_journey(RING, "v", table))

    def test_apart_tells_all_but_the_piece_with_the_least_name(self):
        rose = Counts("v", [(one, other, 1) for pair in ["va", "vb", "vc", "cd"] for one, other in [pair, pair[::-1]]])
        self.assertEqual(pieces_without(rose, "v"), [("-",), ("a",), ("b",), ("c", "d")])
        table = ((("-", "b"), 1), (("a", "c"), 1), (("b", "-"), 1), (("c", "a"), 1))
        self.assertEqual(why_no_table(rose, "v", table), ("apart", ("a", "c", "d")))
        table = ((("-", "-"), 1), (("a", "c"), 1), (("b", "b"), 1), (("c", "a"), 1))
        self.assertEqual(why_no_table(rose, "v", table), ("apart", ("a", "b", "c", "d")))
        self.assertEqual(why_no_table(rose, "c", ((("d", "d"), 1), (("v", "v"), 1))), ("apart", ("d",)))

    def test_tables_that_leave_out_a_step_on_both_sides(self):
        counts = Counts.of(("a", "u", "v", "a", "u", "v", "a"))
        both = (("u", ((("a", "v"), 2),)), ("v", ((("u", "a"), 2),)))
        self.assertIs(can_pass_all(counts, both), True)
        self.assertIs(can_pass_all(counts, (("u", ()), ("v", ()))), False)
        self.assertIs(can_pass_all(counts, (("u", ((("a", "v"), 1),)), ("v", ((("u", "a"), 1),)))), False)

    def test_tables_of_another_beginning(self):
        counts = Counts.of(("a", "b", "a", "b", "a"))
        table_a = ((("b", "b"), 2),)
        table_b = ((("-", "a"), 1), (("a", "-"), 1), (("a", "a"), 1))
        self.assertIs(can_pass_all(counts, (("a", table_a), ("b", table_b))), False)
        self.assertIsNone(pass_all_journey(counts, (("a", table_a), ("b", table_b))))

    def test_no_tables(self):
        self.assertIs(can_pass_all(RING, ()), True)
        self.assertEqual(Counts.of(pass_all_journey(RING, ())), RING)
        self.assertEqual(pass_range(RING, "a", "v", "a", told=()), (0, 1))


class Edges(Raising):
    def test_without_steps(self):
        counts = Counts("m")
        self.assertEqual((arrivals(counts, "m"), departures(counts, "m")), ((("-", 1),), (("-", 1),)))
        self.assertEqual(pieces_without(counts, "m"), [("-",)])
        table = ((("-", "-"), 1),)
        self.assertEqual((why_no_table(counts, "m", table), pass_journey(counts, "m", table)), (None, ("m",)))
        self.assertEqual((pass_range(counts, "-", "m", "-"), pass_range(counts, "-", "m", "a")), ((1, 1), (0, 0)))
        self.assertEqual((must_pass(counts, "m"), may_pass(counts, "m")), ((("-", "-"),), (("-", "-"),)))
        self.assertEqual(range_journeys(counts, "-", "m", "-"), (("m",), ("m",)))
        self.assertEqual(pass_all_journey(counts, (("m", table),)), ("m",))

    def test_home_from_and_to_nowhere(self):
        self.assertEqual(pass_range(HOME, "-", "v", "-"), (0, 0))
        self.assertEqual(pass_range(HOME, "-", "v", "a"), (1, 1))
        self.assertEqual(pass_range(HOME, "-", "a", "-"), (0, 0))

    def test_numbers_that_hold_back_what_could_join_the_pieces(self):
        for row in ["fafafcfcacfcf", "fcbefcf", "fabafadcaecede", "edeaedea", "befeafede", "faeafca"]:
            counts = Counts.of(tuple(row))
            for place in counts.places:
                for one, other in may_pass(counts, place):
                    least, greatest = pass_range(counts, one, place, other)
                    for number in range(least, greatest + 1):
                        journey = journey_passing(counts, one, place, other, number)
                        self.assertEqual(Counts.of(journey), counts)
                        self.assertEqual(number_in(passings(journey, place), one, other), number)

    def test_every_number_between(self):
        counts = Counts("a", (("a", "v", 6), ("v", "a", 6), ("v", "b", 3), ("b", "v", 3), ("v", "c", 2), ("c", "v", 2)))
        least, greatest = pass_range(counts, "a", "v", "a")
        self.assertEqual((least, greatest), (1, 5))
        for number in range(least, greatest + 1):
            journey = journey_passing(counts, "a", "v", "a", number)
            self.assertEqual((Counts.of(journey), number_in(passings(journey, "v"), "a", "a")), (counts, number))


class Errors(Raising):
    def calls(self, counts, place):
        """A call of each function with a place."""
        table = ((("a", "b"), 1),)
        return [lambda: arrivals(counts, place), lambda: departures(counts, place),
                lambda: pieces_without(counts, place), lambda: why_no_table(counts, place, table),
                lambda: can_pass(counts, place, table), lambda: pass_journey(counts, place, table),
                lambda: pass_range(counts, "q", place, "r"), lambda: must_pass(counts, place),
                lambda: may_pass(counts, place), lambda: journey_passing(counts, "q", place, "r", -1),
                lambda: range_journeys(counts, "q", place, "r"),
                lambda: pass_range(counts, "q", place, "r", told=(("t", ()),)),
                lambda: must_pass(counts, place, told=(("t", ()),)), lambda: may_pass(counts, place, told=(("t", ()),)),
                lambda: can_pass_all(counts, ((place, table),)), lambda: pass_all_journey(counts, ((place, table),))]

    def test_no_journey_ahead_of_all_else(self):
        for counts in NOT_HAD:
            for call in self.calls(counts, "zz"):
                self.check_raises(NoJourney, {}, call)
            self.check_raises(NoJourney, {}, lambda: can_pass_all(counts, ()))
            self.check_raises(NoJourney, {}, lambda: pass_all_journey(counts, ()))

    def test_no_place(self):
        for call in self.calls(RING, "zz"):
            self.check_raises(NoPlace, {"place": "zz"}, call)

    def test_no_place_of_told_then_bad_table(self):
        told = (("a", ()), ("k", ()), ("m", ()))
        for call in [lambda told: pass_range(RING, "a", "v", "b", told=told),
                     lambda told: must_pass(RING, "v", told=told), lambda told: may_pass(RING, "v", told=told)]:
            self.check_raises(NoPlace, {"place": "k"}, lambda: call(told))
            self.check_raises(BadTable, {}, lambda: call(told[:1]))
            self.check_raises(BadTable, {}, lambda: call((("b", ((("v", "v"), 2),)),)))
        for call in [can_pass_all, pass_all_journey]:
            self.check_raises(NoPlace, {"place": "k"}, lambda: call(RING, told))

    def test_no_number(self):
        for number in [-1, 2, GREAT]:
            self.check_raises(NoNumber, {"number": number}, lambda: journey_passing(RING, "a", "v", "a", number))
        for number in [0, 2]:
            self.check_raises(NoNumber, {"number": number}, lambda: journey_passing(RING, "a", "v", "b", number))
        self.check_raises(NoNumber, {"number": 1}, lambda: journey_passing(RING, "q", "v", "-", 1))


class HowArgumentsCome(unittest.TestCase):
    def test_lists_for_tuples(self):
        table = [[["a", "-"], 1], [["a", "b"], 1], [["b", "a"], 1]]
        kept = [[["a", "-"], 1], [["a", "b"], 1], [["b", "a"], 1]]
        self.assertIsNone(why_no_table(RING, "v", table))
        self.assertIs(can_pass(RING, "v", table), True)
        self.assertEqual(pass_journey(RING, "v", table), ("a", "v", "b", "v", "a", "v"))
        self.assertEqual(table, kept)
        back = [["w", [[["a", "a"], 1], [["b", "b"], 1]]]]
        self.assertEqual(pass_range(CROSS, "a", "v", "b", told=back), (1, 1))
        self.assertEqual(must_pass(CROSS, "v", told=back), must_pass(CROSS, "v", told=(("w", BACK),)))
        self.assertEqual(may_pass(CROSS, "v", told=back), may_pass(CROSS, "v", told=(("w", BACK),)))
        self.assertIs(can_pass_all(CROSS, back), True)
        self.assertEqual(pass_all_journey(CROSS, back), pass_all_journey(CROSS, (("w", BACK),)))
        self.assertEqual(back, [["w", [[["a", "a"], 1], [["b", "b"], 1]]]])

    def test_by_name(self):
        table = ((("a", "-"), 1), (("a", "b"), 1), (("b", "a"), 1))
        self.assertEqual(passings(place="a", journey=("a",)), ((("-", "-"), 1),))
        self.assertEqual(arrivals(place="v", counts=RING), arrivals(RING, "v"))
        self.assertEqual(departures(place="v", counts=RING), departures(RING, "v"))
        self.assertEqual(pieces_without(place="v", counts=RING), pieces_without(RING, "v"))
        self.assertIsNone(why_no_table(table=table, place="v", counts=RING))
        self.assertIs(can_pass(table=table, place="v", counts=RING), True)
        self.assertEqual(pass_journey(table=table, place="v", counts=RING), pass_journey(RING, "v", table))
        self.assertEqual(pass_range(other="b", place="v", one="a", counts=RING), (1, 1))
        self.assertEqual((must_pass(place="v", counts=RING), may_pass(place="v", counts=RING)),
                         (must_pass(RING, "v"), may_pass(RING, "v")))
        self.assertEqual(journey_passing(many=1, other="a", place="v", one="a", counts=RING),
                         journey_passing(RING, "a", "v", "a", 1))
        self.assertEqual(range_journeys(other="a", place="v", one="a", counts=RING),
                         range_journeys(RING, "a", "v", "a"))
        self.assertEqual((can_pass_all(tables=(), counts=RING), is_table(thing=table)), (True, True))
        self.assertEqual(pass_all_journey(tables=(), counts=RING), pass_all_journey(RING, ()))
        for call in [lambda: pass_range(RING, "a", "v", "b", ()), lambda: must_pass(RING, "v", ()),
                     lambda: may_pass(RING, "v", ())]:
            with self.assertRaises(TypeError):
                call()

    def test_kinds_of_values(self):
        pieces_without(RING, "v").clear()
        self.assertEqual(len(pieces_without(RING, "v")), 3)
        for value in [arrivals(RING, "v"), departures(RING, "v")[0], pieces_without(RING, "v")[0],
                      pass_range(RING, "a", "v", "b"), must_pass(RING, "v"), range_journeys(RING, "a", "v", "a"),
                      range_journeys(RING, "a", "v", "a")[0], why_no_table(RING, "v", ()), passings(("a",), "a")]:
            self.assertIs(value.__class__, tuple)


class AtTheBounds(unittest.TestCase):
    def test_sixty_steps(self):
        steps = [(*pair, 1) for pair in itertools.permutations("abcdefgh", 2)]
        counts = Counts("h", [*steps, ("a", "b", 2), ("b", "a", 2)])
        self.assertEqual(pass_range(counts, "b", "a", "b"), (0, 3))
        for journey, number in zip(range_journeys(counts, "b", "a", "b"), [0, 3]):
            self.assertEqual(Counts.of(journey), counts)
            self.assertEqual(number_in(passings(journey, "a"), "b", "b"), number)
        model = pass_all_journey(counts, ())
        tables = tuple((place, passings(model, place)) for place in "abcdefg")
        journey = pass_all_journey(counts, tables)
        self.assertEqual(tuple((place, passings(journey, place)) for place in "abcdefg"), tables)
        self.assertEqual(may_pass(counts, "h", told=tables[:2])[0], ("-", "a"))

    def test_great_numbers(self):
        steps = [(*pair, GREAT) for pair in itertools.permutations("abcdefgh", 2)]
        counts = Counts("a", steps)
        self.assertEqual(pass_range(counts, "b", "c", "b"), (0, GREAT))
        self.assertEqual(len(may_pass(counts, "b")), 49)
        turn = tuple(sorted(((one, other), GREAT) for one, other in zip("acdefgh", "cdefgha")))
        self.assertIs(can_pass(counts, "b", turn), True)
        self.assertIs(can_pass_all(counts, (("b", turn),)), True)
        self.assertEqual(pass_range(counts, "b", "c", "b", told=(("b", turn),)), (0, GREAT))


if __name__ == "__main__":
    unittest.main()
