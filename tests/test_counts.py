"""Points 2, 3 and 5: Counts."""

import itertools
import unittest

from countedsteps.counts import Counts
from countedsteps.errors import Below, NoJourney, NoPlace, Short, Still
from countedsteps.journeys import steps_of
from helping import GREAT, Raising

LOOP = Counts("a", (("a", "b", 2), ("b", "a", 1), ("a", "b", 1), ("b", "c", 0)))


class DocumentExamples(Raising):
    def test_what_counts_tell(self):
        self.assertEqual(LOOP.steps, (("a", "b", 3), ("b", "a", 1)))
        self.assertEqual(LOOP.places, ("a", "b"))
        self.assertEqual(LOOP.total, 4)
        self.assertEqual((LOOP["a", "b"], LOOP["b", "c"]), (3, 0))
        self.assertIs(("a", "b") in LOOP, True)
        self.assertIs(("b", "c") in LOOP, False)
        self.assertEqual((LOOP.outs("a"), LOOP.ins("a")), (3, 1))
        self.assertEqual((LOOP.nexts("b"), LOOP.befores("c")), (("a",), ()))
        self.assertEqual(LOOP.text, "from a\na b 3\nb a 1")

    def test_equal_less_and_more(self):
        self.assertIs(Counts.of(("a", "b", "a", "b")) == Counts("a", (("b", "a", 1), ("a", "b", 2))), True)
        self.assertEqual((LOOP - Counts.of(("a", "b", "a"))).steps, (("a", "b", 2),))
        self.assertEqual((LOOP + Counts("z")).start, "a")

    def test_errors(self):
        self.check_raises(Short, {"one": "b", "other": "a", "lacking": 2},
                          lambda: LOOP - Counts("b", (("a", "b", 1), ("b", "a", 3))))
        self.check_raises(Still, {"place": "c"}, lambda: Counts("a", (("a", "b", -1), ("c", "c", 0))))


class Construction(Raising):
    def test_no_steps(self):
        for counts in [Counts("a"), Counts("a", ()), Counts("a", []), Counts("a", (("b", "c", 0),))]:
            self.assertEqual((counts.start, counts.steps, counts.places, counts.total), ("a", (), ("a",), 0))
            self.assertEqual(counts.text, "from a")
            self.assertEqual((counts.outs("a"), counts.ins("a")), (0, 0))
            self.assertEqual((counts.nexts("a"), counts.befores("a")), ((), ()))
            self.assertEqual(counts, Counts("a"))

    def test_steps_in_any_order_several_times(self):
        counts = Counts("m", (("z", "a", 1), ("a", "z", 2), ("z", "a", 0), ("a", "b", 5), ("z", "a", 4)))
        self.assertEqual(counts.steps, (("a", "b", 5), ("a", "z", 2), ("z", "a", 5)))
        self.assertEqual(counts.places, ("a", "b", "m", "z"))
        self.assertEqual(counts.total, 12)
        self.assertEqual(counts.text, "from m\na b 5\na z 2\nz a 5")

    def test_ascending_by_comparison(self):
        counts = Counts("b", (("b", "a", 1), ("aa", "b", 3), ("a", "b", 2), ("ab", "aa", 1), ("a", "aa", 9)))
        self.assertEqual(counts.steps, (
            ("a", "aa", 9), ("a", "b", 2), ("aa", "b", 3), ("ab", "aa", 1), ("b", "a", 1)))
        self.assertEqual(counts.places, ("a", "aa", "ab", "b"))

    def test_of_a_journey(self):
        counts = Counts.of(("s", "a", "s", "b", "s", "a"))
        self.assertEqual(counts.start, "s")
        self.assertEqual(counts.steps, (("a", "s", 1), ("b", "s", 1), ("s", "a", 2), ("s", "b", 1)))
        self.assertEqual(Counts.of(("hut",)), Counts("hut"))

    def test_still_for_the_first_such_triple(self):
        self.check_raises(Still, {"place": "b"}, lambda: Counts("a", (("b", "b", 1), ("a", "a", 1))))
        self.check_raises(Still, {"place": "c"}, lambda: Counts("a", (("a", "b", 1), ("c", "c", 0), ("b", "b", 1))))
        self.check_raises(Still, {"place": "a"}, lambda: Counts("a", [["a", "a", -1]]))

    def test_below_for_the_first_such_triple(self):
        below = {"one": "b", "other": "a", "number": -2}
        self.check_raises(Below, below, lambda: Counts("a", (("a", "b", 0), ("b", "a", -2), ("a", "b", -1))))
        self.check_raises(Below, below, lambda: Counts("a", (("b", "a", 7), ("b", "a", -2))))
        self.check_raises(Below, {"one": "b", "other": "c", "number": -1},
                          lambda: Counts("a", (("a", "b", 0), ("b", "c", -1))))
        self.check_raises(Below, {"one": "a", "other": "b", "number": -GREAT},
                          lambda: Counts("a", [["a", "b", -GREAT]]))

    def test_still_ahead_of_below(self):
        self.check_raises(Still, {"place": "b"}, lambda: Counts("a", (("a", "b", -1), ("a", "c", -1), ("b", "b", -1))))


class Asking(Raising):
    def test_index(self):
        counts = Counts("a", (("a", "b", 2), ("b", "c", 1)))
        self.assertEqual([counts["a", "b"], counts["b", "c"]], [2, 1])
        self.assertEqual([counts["b", "a"], counts["a", "a"], counts["x", "y"], counts["a", "c"]], [0, 0, 0, 0])
        self.assertEqual(counts[["a", "b"]], 2)

    def test_in(self):
        counts = Counts("a", (("a", "b", 2), ("b", "c", 0)))
        self.assertIs(("a", "b") in counts, True)
        self.assertIs(["a", "b"] in counts, True)
        for step in [("b", "c"), ("b", "a"), ("a", "a"), ("x", "y"), ["b", "c"]]:
            self.assertIs(step in counts, False)

    def test_outs_and_ins(self):
        counts = Counts("d", (("a", "b", 2), ("a", "c", 3), ("b", "a", 4), ("c", "b", 5)))
        self.assertEqual([counts.outs(place) for place in "abcdx"], [5, 4, 5, 0, 0])
        self.assertEqual([counts.ins(place) for place in "abcdx"], [4, 7, 3, 0, 0])

    def test_nexts_and_befores(self):
        counts = Counts("d", (("b", "z", 1), ("b", "a", 4), ("a", "c", 3), ("z", "c", 1), ("b", "c", 1), ("c", "a", 0)))
        self.assertEqual([counts.nexts(place) for place in "abcdx"], [("c",), ("a", "c", "z"), (), (), ()])
        self.assertEqual([counts.befores(place) for place in "abcdx"], [("b",), (), ("a", "b", "z"), (), ()])

    def test_begun(self):
        for place in ["a", "b", "x"]:
            self.assertEqual(LOOP.begun(place), Counts(place, LOOP.steps))
        self.assertEqual(LOOP.begun("x").places, ("a", "b", "x"))
        self.assertEqual(LOOP.start, "a")

    def test_check(self):
        counts = Counts("s", (("a", "b", 2), ("b", "c", 0)))
        for place in ["s", "a", "b"]:
            self.assertIsNone(counts.check(place))
        for place in ["c", "x", "aa"]:
            self.check_raises(NoPlace, {"place": place}, lambda: counts.check(place))
        self.assertIsNone(Counts("s").check("s"))

    def test_no_iteration(self):
        for counts in [LOOP, Counts("a")]:
            for call in [iter, list, tuple, sorted, dict]:
                with self.assertRaises(TypeError):
                    call(counts)
            with self.assertRaises(TypeError):
                for _ in counts:
                    pass


class Equality(unittest.TestCase):
    def test_same_start_and_same_steps(self):
        one = Counts("a", (("a", "b", 1), ("b", "a", 2)))
        self.assertIs(one == Counts("a", [["b", "a", 1], ["a", "b", 1], ["b", "a", 1], ["a", "c", 0]]), True)
        self.assertIs(one != Counts("a", one.steps), False)
        for other in [Counts("b", one.steps), Counts("a"), Counts("a", (("a", "b", 1), ("b", "a", 1))),
                      Counts("a", (("a", "b", 1), ("b", "c", 2))), Counts("a", (*one.steps, ("b", "c", 1)))]:
            self.assertIs(one == other, False)
            self.assertIs(other == one, False)
            self.assertIs(one != other, True)

    def test_counts_equal_nothing_else(self):
        one = Counts("a")
        for thing in ["a", ("a", ()), ("a",), ["a"], 0, 1, None, True, False, (), [], "from a", NoJourney(), (one,)]:
            self.assertIs(one == thing, False)
            self.assertIs(thing == one, False)
            self.assertIs(one != thing, True)


class SumsAndDifferences(Raising):
    def test_sum(self):
        one, other = Counts("a", (("a", "b", 1), ("b", "a", 2))), Counts("c", (("b", "a", 3), ("a", "c", 1)))
        self.assertEqual(one + other, Counts("a", (("a", "b", 1), ("a", "c", 1), ("b", "a", 5))))
        self.assertEqual(other + one, Counts("c", (("a", "b", 1), ("a", "c", 1), ("b", "a", 5))))
        self.assertEqual(one + Counts("z"), one)
        self.assertEqual((Counts("z") + one).start, "z")

    def test_difference(self):
        one, other = Counts("a", (("a", "b", 4), ("b", "a", 2))), Counts("c", (("b", "a", 2), ("a", "b", 1)))
        self.assertEqual((one - other).start, "a")
        self.assertEqual((one - other).steps, (("a", "b", 3),))
        self.assertEqual(one - one, Counts("a"))
        self.assertEqual(one - Counts("z"), one)

    def test_short_for_the_least_step(self):
        one = Counts("a", (("b", "a", 1), ("c", "a", 1), ("a", "b", 9)))
        other = Counts("a", (("c", "a", 5), ("b", "c", 4), ("b", "a", 3), ("a", "b", 9)))
        self.check_raises(Short, {"one": "b", "other": "a", "lacking": 2}, lambda: one - other)
        self.check_raises(Short, {"one": "b", "other": "c", "lacking": 4},
                          lambda: one - Counts("a", (("c", "a", 5), ("b", "c", 4))))
        self.check_raises(Short, {"one": "a", "other": "b", "lacking": GREAT},
                          lambda: Counts("x") - Counts("x", (("a", "b", GREAT),)))
        self.assertEqual(one.steps, (("a", "b", 9), ("b", "a", 1), ("c", "a", 1)))

    def test_a_name_is_bound_to_new_counts(self):
        first = counts = Counts("a", (("a", "b", 1),))
        counts += Counts("b", (("b", "a", 1),))
        self.assertEqual(counts, Counts("a", (("a", "b", 1), ("b", "a", 1))))
        self.assertEqual(first, Counts("a", (("a", "b", 1),)))
        second = counts
        counts -= first
        self.assertEqual(counts, Counts("a", (("b", "a", 1),)))
        self.assertEqual(second.total, 2)
        with self.assertRaises(Short):
            counts -= first
        self.assertEqual(counts, Counts("a", (("b", "a", 1),)))

    def test_both_sides_remain(self):
        one, other = Counts("a", (("a", "b", 2),)), Counts("b", (("a", "b", 1), ("a", "c", 0)))
        self.assertEqual((one + other - other, one - other + other), (one, one))
        self.assertEqual((one.text, other.text), ("from a\na b 2", "from b\na b 1"))


class HowArgumentsCome(unittest.TestCase):
    def test_lists_for_tuples(self):
        steps = (("a", "b", 2), ("b", "a", 1))
        for given in [[["a", "b", 2], ["b", "a", 1]], (["a", "b", 2], ("b", "a", 1)), list(steps)]:
            self.assertEqual(Counts("a", given), Counts("a", steps))
            self.assertEqual(Counts("a", given).steps, steps)
        self.assertEqual(Counts.of(["a", "b", "a", "b"]), Counts("a", steps))

    def test_by_name(self):
        counts = Counts(steps=(("a", "b", 2),), start="b")
        self.assertEqual(counts, Counts("b", (("a", "b", 2),)))
        self.assertEqual(Counts(start="a"), Counts("a"))
        self.assertEqual(Counts.of(journey=("a", "b")), Counts("a", (("a", "b", 1),)))
        self.assertEqual((counts.outs(place="a"), counts.ins(place="b")), (2, 2))
        self.assertEqual((counts.nexts(place="a"), counts.befores(place="b")), (("b",), ("a",)))
        self.assertEqual(counts.begun(place="a").start, "a")
        self.assertIsNone(counts.check(place="a"))

    def test_a_list_that_is_changed_afterwards(self):
        steps = [["a", "b", 2], ["b", "a", 1]]
        counts = Counts("a", steps)
        self.assertEqual(steps, [["a", "b", 2], ["b", "a", 1]])
        steps[0][2] = 7
        steps[1][0] = "c"
        steps.append(["c", "a", 1])
        self.assertEqual(counts, Counts("a", (("a", "b", 2), ("b", "a", 1))))
        self.assertEqual((counts["a", "b"], counts.total, counts.places), (2, 3, ("a", "b")))
        journey = ["a", "b", "a"]
        of = Counts.of(journey)
        self.assertEqual(journey, ["a", "b", "a"])
        journey.append("c")
        self.assertEqual(of.text, "from a\na b 1\nb a 1")

    def test_returned_values_are_tuples_and_may_be_passed_in_again(self):
        for value in [LOOP.steps, LOOP.places, LOOP.nexts("a"), LOOP.befores("a")]:
            self.assertIs(value.__class__, tuple)
        self.assertEqual([step.__class__ for step in Counts("a", [["a", "b", 1]]).steps], [tuple])
        self.assertEqual(Counts(LOOP.start, LOOP.steps), LOOP)

    def test_no_setters(self):
        counts = Counts("a", (("a", "b", 1),))
        for name in ["start", "steps", "places", "total", "text"]:
            with self.subTest(name), self.assertRaises(AttributeError):
                setattr(counts, name, getattr(counts, name))
        self.assertEqual(counts, Counts("a", (("a", "b", 1),)))


class GreatNumbers(Raising):
    def test_ten_to_the_thirty(self):
        counts = Counts("a", (("a", "b", GREAT), ("b", "a", GREAT), ("b", "a", 0)))
        self.assertEqual((counts["a", "b"], counts.total, counts.outs("b")), (GREAT, 2 * GREAT, GREAT))
        self.assertEqual(counts.text, f"from a\na b {GREAT}\nb a {GREAT}")
        self.assertEqual((counts + counts)["a", "b"], 2 * GREAT)
        self.assertEqual((counts - Counts.of(("a", "b")))["a", "b"], GREAT - 1)
        self.check_raises(Short, {"one": "a", "other": "b", "lacking": 1},
                          lambda: counts - Counts("a", (("a", "b", GREAT + 1),)))

    def test_journeys_of_sixty_one_places_and_more(self):
        for many in [30, 5000]:
            counts = Counts.of(("a", "b") * many + ("a",))
            self.assertEqual(counts, Counts("a", (("a", "b", many), ("b", "a", many))))

    def test_beyond_the_bounds(self):
        letters = "abcdefghijkl"
        counts = Counts("a", [(one, other, 10 ** 40) for one, other in itertools.permutations(letters, 2)])
        self.assertEqual(counts.places, tuple(letters))
        self.assertEqual(counts.total, 132 * 10 ** 40)
        self.assertEqual(counts.nexts("b"), tuple("acdefghijkl"))


class SmallJourneys(unittest.TestCase):
    def test_the_steps_of_all_small_journeys(self):
        for length in range(1, 6):
            for row in itertools.product("abc", repeat=length):
                if all(one != other for one, other in zip(row, row[1:])):
                    self.check_counts(Counts.of(row), row)

    def check_counts(self, counts, journey):
        made = steps_of(journey)
        self.assertEqual(counts, Counts(journey[0], [(*step, 1) for step in reversed(made)]))
        self.assertEqual(counts.places, tuple(sorted(set(journey))))
        self.assertEqual(counts.total, len(made))
        for place in "abcd":
            self.assertEqual(counts.outs(place), len([step for step in made if step[0] == place]))
            self.assertEqual(counts.ins(place), len([step for step in made if step[1] == place]))
            self.assertEqual(counts.nexts(place), tuple(sorted({step[1] for step in made if step[0] == place})))
            self.assertEqual(counts.befores(place), tuple(sorted({step[0] for step in made if step[1] == place})))
        for step in itertools.product("abcd", repeat=2):
            self.assertEqual(counts[step], made.count(step))
            self.assertIs(step in counts, step in made)


if __name__ == "__main__":
    unittest.main()
