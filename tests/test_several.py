"""Points 1 (h), 2, 3 and 12: several journeys in one count."""

import itertools
import random
import unittest

from countedsteps.counts import Counts
from countedsteps.errors import Below, NoJourney, NoNumber, Still, Unlike
from countedsteps.several import Several
from helping import GREAT, ODD_THINGS, Raising

TWO = Several.of((("a", "b"), ("b", "a", "b")))
NOT_HAD = [
    Several((("a", 1),), ()),
    Several((("a", 1),), (("a", 1),), (("a", "b", 1),)),
    Several((("a", 1),), (("b", 1),), (("a", "b", 1), ("c", "d", 1), ("d", "c", 1))),
    Several((), (), (("a", "b", 1), ("b", "a", 1))),
    Several((("a", 1),), (("b", 1),)),
]


def rows_of(several):
    """All ROWs that have it, ascending, by following every begin, end and step."""
    begins, ends = dict(several.begins), dict(several.ends)
    steps = {(one, other): many for one, other, many in several.steps}
    found = []

    def take(numbers, name, go_on):
        if numbers.get(name, 0):
            numbers[name] -= 1
            go_on()
            numbers[name] += 1

    def between(row):
        if not any(begins.values()) and not any(ends.values()) and not any(steps.values()):
            found.append(row)
        for place in sorted(begins):
            take(begins, place, lambda: within(row, (place,)))

    def within(row, journey):
        take(ends, journey[-1], lambda: between((*row, journey)))
        for one, other in sorted(steps):
            if one == journey[-1]:
                take(steps, (one, other), lambda: within(row, (*journey, other)))

    between(())
    return sorted(found)


def walked_row(rng, places, journeys, steps):
    """A ROW of at most so many journeys, with at most so many steps and journeys in all."""
    row, left = [], steps
    for _ in range(rng.randint(0, journeys)):
        journey = [rng.choice(places)]
        for _ in range(rng.randint(0, max(left, 0))):
            journey.append(rng.choice([place for place in places if place != journey[-1]]))
        left -= len(journey)
        row.append(tuple(journey))
    return tuple(row)


def small_ones(seed, many=100):
    """Several of random ROWs over up to four places."""
    rng = random.Random(seed)
    met = []
    while len(met) < many:
        places = rng.sample(["a", "b", "ba", "c"], rng.randint(2, 4))
        several = Several.of(walked_row(rng, places, 3, 6))
        if several not in met or rng.random() < 0.02:
            met.append(several)
    return met


def any_ones(seed, many=400):
    """Several that some ROW has or not."""
    rng = random.Random(seed)
    for _ in range(many):
        begins = [(rng.choice("abc"), rng.randint(0, 1)) for _ in range(rng.randint(0, 3))]
        ends = [(rng.choice("abc"), rng.randint(0, 1)) for _ in range(rng.randint(0, 3))]
        steps = [(*rng.sample("abcd", 2), rng.randint(0, 2)) for _ in range(rng.randint(0, 3))]
        yield Several(begins, ends, steps)


def why_by_hand(several):
    """What why_none tells, place by place."""
    begins, ends = dict(several.begins), dict(several.ends)
    if sum(begins.values()) != sum(ends.values()):
        return ("surplus", "-")
    for place in several.places:
        outs = sum(many for one, _, many in several.steps if one == place) + ends.get(place, 0)
        ins = sum(many for _, other, many in several.steps if other == place) + begins.get(place, 0)
        if outs != ins:
            return ("surplus", place)
    led = set(begins)
    for _ in several.places:
        led |= {place for one, other, _ in several.steps if {one, other} & led for place in (one, other)}
    apart = [place for place in several.places if place not in led]
    return ("apart", apart[0]) if apart else None


class DocumentExamples(Raising):
    def test_two(self):
        self.assertEqual((TWO.begins, TWO.ends), ((("a", 1), ("b", 1)), (("b", 2),)))
        self.assertEqual((TWO.steps, TWO.places, TWO.size), ((("a", "b", 2), ("b", "a", 1)), ("a", "b"), 2))
        self.assertEqual((TWO.how_many(), TWO.in_order(("b", "a")), TWO.in_order(("a", "a"))), (4, 2, 0))
        self.assertEqual([TWO.row(number) for number in range(4)], [
            (("a", "b"), ("b", "a", "b")), (("a", "b", "a", "b"), ("b",)),
            (("b",), ("a", "b", "a", "b")), (("b", "a", "b"), ("a", "b"))])
        self.assertEqual((TWO.some_row(), TWO.rank((("b",), ("a", "b", "a", "b")))), (TWO.row(0), 2))
        self.assertIs(TWO.is_row((("b", "a"), ("a", "b", "b"))), False)
        self.assertEqual((TWO + Several.of((("c",),))).how_many(), 12)
        self.assertEqual((TWO.follow_range("b", "a"), TWO.follow_range("-", "a")), ((0, 1), (0, 1)))
        self.assertEqual((TWO.following("b", "a", 1)[1][0], TWO.turned().ends), ("a", (("a", 1), ("b", 1))))

    def test_none(self):
        self.assertEqual(NOT_HAD[1].why_none(), ("surplus", "a"))
        self.assertEqual(NOT_HAD[2].why_none(), ("apart", "c"))
        self.assertEqual(Several((), ()).some_row(), ())
        self.assertEqual(Several((("a", 1),), ()).why_none(), ("surplus", "-"))
        self.assertEqual(Several((("a", 2),), (("a", 2),)).how_many(), 1)

    def test_errors(self):
        self.check_raises(NoNumber, {"number": 4}, lambda: TWO.row(4))
        self.check_raises(Unlike, {}, lambda: TWO.rank((("a", "b"),)))
        self.check_raises(NoJourney, {}, lambda: Several((("a", 1),), ()).follow_range("a", "a"))
        self.check_raises(Below, {"one": "-", "other": "a", "number": -1}, lambda: Several((("a", -1),), ()))


class Construction(Raising):
    def test_numbers_are_added(self):
        several = Several((("b", 1), ("a", 0), ("b", 2)), (("c", 1), ("a", 3), ("c", 1)),
                          (("b", "a", 1), ("a", "b", 0), ("b", "a", 4), ("a", "c", 2)))
        self.assertEqual((several.begins, several.ends), ((("b", 3),), (("a", 3), ("c", 2))))
        self.assertEqual((several.steps, several.places), ((("a", "c", 2), ("b", "a", 5)), ("a", "b", "c")))
        self.assertEqual(several.size, 3)

    def test_nothing(self):
        for several in [Several((), ()), Several([], [], []), Several((("a", 0),), (("b", 0),), (("a", "b", 0),)),
                        Several.of(())]:
            self.assertEqual((several.begins, several.ends, several.steps), ((), (), ()))
            self.assertEqual((several.places, several.size, several), ((), 0, Several((), ())))
            self.assertEqual((several.why_none(), several.is_had(), several.how_many()), (None, True, 1))
            self.assertEqual((several.in_order(()), several.in_order(("a",))), (1, 0))
            self.assertEqual((several.row(0), several.rank(()), several.is_row(()), several.some_row()),
                             ((), 0, True, ()))
            self.assertEqual((several.follow_range("-", "-"), several.follow_range("a", "-")), ((1, 1), (0, 0)))
            self.assertEqual((several.following("-", "-", 1), several.following("a", "b", 0)), ((), ()))
            self.check_raises(NoNumber, {"number": 0}, lambda: several.following("-", "-", 0))
            self.check_raises(NoNumber, {"number": 1}, lambda: several.row(1))
            self.check_raises(Unlike, {}, lambda: several.rank((("a",),)))

    def test_journeys_of_one_place(self):
        several = Several.of((("a",), ("b",), ("a",)))
        self.assertEqual((several.begins, several.ends, several.steps), ((("a", 2), ("b", 1)),) * 2 + ((),))
        self.assertEqual((several.how_many(), several.in_order(("a", "b", "a"))), (3, 1))

    def test_still_then_below_in_their_order(self):
        still = (("a", "b", -1), ("c", "c", 0), ("b", "b", 1))
        self.check_raises(Still, {"place": "c"}, lambda: Several((("a", -1),), (("b", -1),), still))
        for begins, ends, steps, values in [
                ((("a", 1), ("b", -2), ("c", -1)), (("a", -1),), (("a", "b", -1),), ("-", "b", -2)),
                ((("a", 1),), (("c", 0), ("b", -3), ("a", -1)), (("a", "b", -1),), ("b", "-", -3)),
                ((("a", 1),), (("c", 0),), (("a", "b", 1), ("b", "c", -4), ("a", "b", -1)), ("b", "c", -4))]:
            self.check_raises(Below, dict(zip(["one", "other", "number"], values)),
                              lambda: Several(begins, ends, steps))

    def test_sum_and_turned(self):
        one, other = Several.of((("a", "b"),)), Several.of((("b", "a", "b"),))
        self.assertEqual((one + other, other + one), (TWO, TWO))
        self.assertEqual(one + Several((), ()), one)
        self.assertEqual(TWO.turned(), Several.of((("b", "a"), ("b", "a", "b"))))
        self.assertEqual(TWO.turned().turned(), TWO)
        self.assertEqual((one.size, other.size), (1, 1))
        both = one
        both += other
        self.assertEqual((both, one), (TWO, Several.of((("a", "b"),))))


class AgainstAllRows(Raising):
    def test_had_or_not(self):
        for several in any_ones(121):
            rows = rows_of(several)
            self.assertIs(several.is_had(), rows != [])
            self.assertEqual(several.why_none(), why_by_hand(several))
            self.assertEqual((several.how_many(), several.some_row()), (len(rows), rows[0] if rows else None))

    def test_by_their_numbers(self):
        for several in small_ones(122):
            rows = rows_of(several)
            self.assertEqual((several.how_many(), several.some_row()), (len(rows), rows[0]))
            for number in sorted({0, 1, len(rows) // 2, len(rows) - 1} & set(range(len(rows)))):
                self.assertEqual((several.row(number), several.rank(rows[number])), (rows[number], number))
                self.assertIs(several.is_row(rows[number]), True)
            for number in [-1, len(rows), GREAT]:
                self.check_raises(NoNumber, {"number": number}, lambda: several.row(number))

    def test_all_numbers(self):
        for several in small_ones(123, many=8):
            rows = rows_of(several)[:60]
            self.assertEqual([several.row(number) for number in range(len(rows))], rows)
            self.assertEqual([several.rank(row) for row in rows], list(range(len(rows))))

    def test_in_order(self):
        for several in small_ones(124, many=60):
            rows = rows_of(several)
            begins = [place for place, many in several.begins for _ in range(many)]
            for places in {*itertools.permutations(begins), ("a",), (), ("a", "b"), ("zz",) * len(begins)}:
                those = [row for row in rows if tuple(journey[0] for journey in row) == places]
                self.assertEqual(several.in_order(places), len(those))

    def test_following(self):
        for several in small_ones(125, many=60):
            followed_so = [self.pairs(row) for row in rows_of(several)]
            for pair in itertools.product(["-", "a", "b", "ba", "c"], repeat=2):
                numbers = sorted({pairs.count(pair) for pairs in followed_so})
                self.assertEqual(several.follow_range(*pair), (numbers[0], numbers[-1]))
                for number in numbers:
                    row = several.following(*pair, number)
                    self.assertIs(several.is_row(row), True)
                    self.assertEqual(self.pairs(row).count(pair), number)
                for number in [numbers[0] - 1, numbers[-1] + 1]:
                    self.check_raises(NoNumber, {"number": number}, lambda: several.following(*pair, number))

    def pairs(self, row):
        """The pairs (end, begin) of neighbours in the ROW, "-" ahead of it and behind it."""
        ends = ["-", *[journey[-1] for journey in row]]
        begins = [*[journey[0] for journey in row], "-"]
        return list(zip(ends, begins))


class Rows(Raising):
    def test_is_row_of_all_kinds_of_things(self):
        for thing in [*ODD_THINGS, ()]:
            self.assertIs(TWO.is_row(thing), False)
        good = (("a", "b"), ("b", "a", "b"))
        for thing in [list(good), (list(good[0]), good[1]), (good[0],), good + good, (("a", "b", "b"), ("a", "b")),
                      (("a", "b"), ("b", "a", "b"), ()), "ab", (good,), (("b", "a"), ("b", "a", "b"))]:
            self.assertIs(TWO.is_row(thing), False)
        self.assertIs(TWO.is_row(good), True)
        for several in NOT_HAD:
            self.assertIs(several.is_row((("a",),)), False)

    def test_unlike(self):
        for row in [(), (("a", "b"), ("b", "a")), (("a", "b"), ("b", "a", "b"), ("a",)), (("a", "b", "a", "b"),)]:
            self.check_raises(Unlike, {}, lambda: TWO.rank(row))

    def test_no_journey(self):
        for several in NOT_HAD:
            self.assertEqual((several.is_had(), several.how_many(), several.some_row()), (False, 0, None))
            self.assertEqual((several.in_order(("a",)), several.in_order(())), (0, 0))
            for call in [lambda: several.row(-1), lambda: several.rank(()), lambda: several.rank((("zz",),)),
                         lambda: several.follow_range("-", "-"), lambda: several.following("a", "a", -1)]:
                self.check_raises(NoJourney, {}, call)

    def test_surplus_for_the_least_place(self):
        self.assertEqual(Several((("b", 1),), (("a", 1),)).why_none(), ("surplus", "a"))
        self.assertEqual(Several((("b", 1),), (("b", 1),), (("d", "c", 2),)).why_none(), ("surplus", "c"))
        self.assertEqual(Several((("b", 2),), (("b", 1),), (("b", "a", 1),)).why_none(), ("surplus", "-"))
        self.assertEqual(NOT_HAD[3].why_none(), ("apart", "a"))


class Equality(Raising):
    def test_equality(self):
        self.assertIs(TWO == Several((("b", 1), ("a", 1)), (("b", 2),), (("b", "a", 1), ("a", "b", 2))), True)
        self.assertIs(TWO != Several.of((("a", "b"), ("b", "a", "b"))), False)
        for thing in [TWO.turned(), Several((), ()), Several(TWO.begins, TWO.ends), Counts("a"), None, 2, (), "a",
                      (("a", "b"), ("b", "a", "b")), Several(TWO.ends, TWO.begins, TWO.steps)]:
            self.assertIs(TWO == thing, False)
            self.assertIs(thing == TWO, False)

    def test_no_setters(self):
        for name in ["begins", "ends", "steps", "places", "size"]:
            with self.assertRaises(AttributeError):
                setattr(TWO, name, getattr(TWO, name))


class HowArgumentsCome(unittest.TestCase):
    def test_lists_for_tuples(self):
        begins, ends, steps = [["a", 1], ["b", 1]], [["b", 2]], [["a", "b", 2], ["b", "a", 1]]
        several = Several(begins, ends, steps)
        self.assertEqual((begins, ends, steps),
                         ([["a", 1], ["b", 1]], [["b", 2]], [["a", "b", 2], ["b", "a", 1]]))
        begins.append(["c", 1])
        ends[0][1] = 7
        steps.clear()
        self.assertEqual(several, TWO)
        self.assertEqual(Several.of([["a", "b"], ["b", "a", "b"]]), TWO)
        self.assertEqual((TWO.rank([["b"], ["a", "b", "a", "b"]]), TWO.in_order(["b", "a"])), (2, 2))

    def test_by_name(self):
        several = Several(steps=TWO.steps, ends=TWO.ends, begins=TWO.begins)
        self.assertEqual((several, Several.of(row=(("a", "b"), ("b", "a", "b")))), (TWO, TWO))
        self.assertEqual((several.in_order(places=("a", "b")), several.is_row(thing=TWO.row(1))), (2, True))
        self.assertEqual((several.row(number=1), several.rank(row=TWO.row(1))), (TWO.row(1), 1))
        self.assertEqual(several.follow_range(other="a", one="b"), (0, 1))
        self.assertEqual(several.following(many=1, other="a", one="b"), TWO.following("b", "a", 1))

    def test_kinds_of_values(self):
        for value in [TWO.begins, TWO.begins[0], TWO.ends, TWO.steps[0], TWO.places, TWO.row(0), TWO.row(0)[1],
                      TWO.some_row(), TWO.follow_range("b", "a"), TWO.following("b", "a", 1), NOT_HAD[0].why_none()]:
            self.assertIs(value.__class__, tuple)


class AtTheBounds(unittest.TestCase):
    def test_sixty_steps(self):
        steps = [(*pair, 1) for pair in itertools.permutations("abcdefgh", 2)]
        several = Several([(place, 2) for place in "abcdefgh"], [(place, 2) for place in "abcdefgh"], steps)
        number = several.how_many() // 3
        row = several.row(number)
        self.assertEqual((several.rank(row), several.is_row(row), several.size), (number, True, 16))
        least, greatest = several.follow_range("a", "b")
        self.assertEqual((least, greatest), (0, 2))
        for many in [0, 1, 2]:
            self.assertIs(several.is_row(several.following("a", "b", many)), True)
        begins = tuple("abcdefgh" * 2)
        self.assertEqual(several.in_order(begins) * 81729648000, several.how_many())

    def test_great_numbers(self):
        several = Several((("a", GREAT),), (("b", GREAT),), (("a", "b", 2 * GREAT), ("b", "a", GREAT)))
        self.assertEqual((several.why_none(), several.size), (None, GREAT))
        self.assertEqual(several.follow_range("b", "a"), (GREAT - 1, GREAT - 1))
        self.assertEqual(several.turned().begins, (("b", GREAT),))


if __name__ == "__main__":
    unittest.main()
