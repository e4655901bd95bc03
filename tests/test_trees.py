"""Points 2, 3 and 7: how many journeys, trees, exit lists."""

import itertools
import unittest

from countedsteps.counts import Counts
from countedsteps.errors import NoJourney, NoTree
from countedsteps.journeys import exits
from countedsteps.stands import end_of
from countedsteps.trees import (
    by_lists, exit_lists, how_many, how_many_trees, is_tree, last_steps, trees, with_tree,
)
from helping import GREAT, NOT_HAD, ODD_THINGS, Raising, any_counts, followed, short_journeys, small_counts

SIX = Counts("a", (("a", "b", 1), ("a", "c", 1), ("b", "a", 1), ("b", "c", 1), ("c", "a", 1), ("c", "b", 1)))


def full(places, number):
    """Counts in which each place leads to each other one so often."""
    return Counts(places[0], [(*pair, number) for pair in itertools.permutations(places, 2)])


class DocumentExamples(Raising):
    def test_how_many(self):
        self.assertEqual([how_many(SIX), how_many(Counts("a"))], [6, 1])
        self.assertEqual(how_many(Counts("a", (("b", "c", 1),))), 0)
        self.assertEqual(how_many(Counts("a", (("a", "b", 2), ("b", "a", 1)))), 1)
        steps = (("a", "b", 10), ("a", "c", 10), ("b", "a", 10), ("c", "a", 10))
        self.assertEqual(how_many(Counts("a", steps)), 184756)

    def test_trees(self):
        self.assertEqual(trees(SIX), [
            (("b", "a"), ("c", "a")), (("b", "a"), ("c", "b")), (("b", "c"), ("c", "a"))])
        self.assertEqual(how_many_trees(SIX), 3)
        self.assertEqual(with_tree(SIX, (("b", "a"), ("c", "b"))), 2)
        self.assertIs(is_tree(SIX, (("b", "c"), ("c", "b"))), False)
        self.assertEqual(last_steps(("a", "b", "c", "b", "a", "c", "a")), (("b", "a"), ("c", "a")))
        self.check_raises(NoTree, {}, lambda: with_tree(SIX, (("b", "c"), ("c", "b"))))

    def test_lists(self):
        self.assertEqual(exit_lists(("a", "b", "a", "c")), (("a", ("b", "c")), ("b", ("a",))))
        self.assertEqual(by_lists("a", (("b", ("a",)), ("a", ("b", "c")))), ("a", "b", "a", "c"))
        self.assertIsNone(by_lists("a", (("a", ("c", "b")), ("b", ("a",)))))


class Trees(Raising):
    def test_without_steps(self):
        counts = Counts("x")
        self.assertEqual((how_many(counts), trees(counts), how_many_trees(counts)), (1, [()], 1))
        self.assertEqual((is_tree(counts, ()), with_tree(counts, ()), last_steps(("x",))), (True, 1, ()))
        self.assertIs(is_tree(counts, (("x", "y"),)), False)

    def test_is_tree_of_all_kinds_of_things(self):
        for thing in [*ODD_THINGS, ()]:
            self.assertIs(is_tree(SIX, thing), False, thing)
        for thing in ODD_THINGS:
            self.assertIs(is_tree(Counts("x"), thing), False, thing)

    def test_is_tree_only_for_sets_of_steps(self):
        good = (("b", "a"), ("c", "b"))
        self.assertIs(is_tree(SIX, good), True)
        for thing in [good[::-1], good + good[1:], good[:1], good[1:], list(good), (list(good[0]), good[1]),
                      (("a", "b"), *good), (("b", "a"), ("c", "d")), (("b", "a"), ("c", "b"), ("d", "a")),
                      ("ba", "cb"), (("b", "a"), ("b", "c")), (("a", "b"), ("b", "a"), ("c", "a"))]:
            self.assertIs(is_tree(SIX, thing), False, thing)
        # A step that is not counted; a place that does not lead to the end.
        less = Counts.of(("a", "b", "c", "a"))
        self.assertIs(is_tree(less, (("b", "c"), ("c", "a"))), True)
        self.assertIs(is_tree(less, (("b", "a"), ("c", "a"))), False)

    def test_no_tree(self):
        for tree in [(), (("b", "a"),), (("b", "c"), ("c", "b")), [["c", "a"], ["b", "a"]], (("b", "a"), ("c", "d"))]:
            self.check_raises(NoTree, {}, lambda: with_tree(SIX, tree))

    def test_no_journey_ahead_of_all_else(self):
        for counts in NOT_HAD:
            self.assertEqual(how_many(counts), 0)
            for call in [trees, how_many_trees]:
                self.check_raises(NoJourney, {}, lambda: call(counts))
            for thing in [(), 0, (("a", "b"),), None]:
                self.check_raises(NoJourney, {}, lambda: is_tree(counts, thing))
            for tree in [(), (("a", "b"),), (("b", "c"), ("c", "b"))]:
                self.check_raises(NoJourney, {}, lambda: with_tree(counts, tree))


class AgainstAllJourneys(unittest.TestCase):
    def test_how_many(self):
        for counts in any_counts(71):
            self.assertEqual(how_many(counts), len(followed(counts)))

    def test_small_counts(self):
        for counts in small_counts(72, many=60):
            journeys = followed(counts)
            self.assertEqual(how_many(counts), len(journeys))
            by_tree = {}
            for journey in journeys:
                by_tree[last_steps(journey)] = by_tree.get(last_steps(journey), 0) + 1
            self.assertEqual(trees(counts), sorted(by_tree))
            self.assertEqual(how_many_trees(counts), len(by_tree))
            for tree, number in by_tree.items():
                self.assertIs(is_tree(counts, tree), True)
                self.assertEqual(with_tree(counts, tree), number)
            self.check_trees(counts, by_tree)

    def check_trees(self, counts, by_tree):
        """Each choice of a step out of each place but the end is a tree, or none."""
        places = [place for place in counts.places if place != end_of(counts)]
        for nexts in itertools.product(*[counts.nexts(place) for place in places]):
            tree = tuple(zip(places, nexts))
            self.assertIs(is_tree(counts, tree), tree in by_tree)

    def test_all_orders_of_the_exit_lists(self):
        for counts in small_counts(73, many=12, most=7):
            journeys = followed(counts)
            places = [place for place in counts.places if counts.outs(place)]
            orders = [sorted(set(itertools.permutations(exits(journeys[0], place)))) for place in places]
            made = [by_lists(counts.start, tuple(zip(places, rows))) for rows in itertools.product(*orders)]
            self.assertEqual(sorted(row for row in made if row is not None), journeys)

    def test_exit_lists(self):
        for journey in short_journeys("abc", 5):
            lists = exit_lists(journey)
            self.assertEqual(lists, tuple((place, exits(journey, place)) for place in sorted(set(journey[:-1]))))
            self.assertEqual(by_lists(journey[0], lists), journey)
            self.assertEqual(by_lists(journey[0], lists[::-1]), journey)
            lasts = {one: other for one, other in zip(journey, journey[1:]) if one != journey[-1]}
            self.assertEqual(last_steps(journey), tuple(sorted(lasts.items())))


class Lists(unittest.TestCase):
    def test_without_lists(self):
        self.assertEqual(by_lists("a", ()), ("a",))
        self.assertEqual(by_lists("a", (("a", ()), ("b", ()))), ("a",))
        self.assertIsNone(by_lists("a", (("b", ("a",)),)))
        self.assertEqual(exit_lists(("a",)), ())

    def test_more_than_is_used(self):
        self.assertIsNone(by_lists("a", (("a", ("b",)), ("b", ()), ("c", ("a",)))))
        self.assertEqual(by_lists("a", (("a", ("b",)), ("b", ("x",)))), ("a", "b", "x"))


class HowArgumentsCome(unittest.TestCase):
    def test_lists_for_tuples(self):
        self.assertEqual(with_tree(SIX, [["b", "a"], ["c", "b"]]), 2)
        self.assertEqual(with_tree(SIX, (["b", "a"], ("c", "b"))), 2)
        self.assertEqual(last_steps(["a", "b", "c"]), (("a", "b"), ("b", "c")))
        self.assertEqual(exit_lists(["a", "b", "a"]), (("a", ("b",)), ("b", ("a",))))
        lists = [["b", ["a"]], ["a", ["b", "c"]]]
        self.assertEqual(by_lists("a", lists), ("a", "b", "a", "c"))
        self.assertEqual(lists, [["b", ["a"]], ["a", ["b", "c"]]])

    def test_by_name(self):
        tree = (("b", "a"), ("c", "b"))
        self.assertEqual((how_many(counts=SIX), how_many_trees(counts=SIX), len(trees(counts=SIX))), (6, 3, 3))
        self.assertEqual((is_tree(thing=tree, counts=SIX), with_tree(tree=tree, counts=SIX)), (True, 2))
        self.assertEqual((last_steps(journey=("a", "b")), exit_lists(journey=("a",))), ((("a", "b"),), ()))
        self.assertEqual(by_lists(lists=(("a", ("b",)),), start="a"), ("a", "b"))

    def test_lists_are_new(self):
        trees(SIX).clear()
        self.assertEqual(len(trees(SIX)), 3)
        self.assertEqual([(tree.__class__, tree[0].__class__) for tree in trees(SIX)], [(tuple, tuple)] * 3)


class AtTheBounds(unittest.TestCase):
    def test_great_numbers(self):
        self.assertEqual(how_many_trees(full("abcdefgh", GREAT)), 8 ** 6)
        self.assertEqual(how_many_trees(Counts("a", (("a", "b", GREAT), ("b", "a", GREAT)))), 1)
        self.assertIs(is_tree(full("ab", GREAT), (("b", "a"),)), True)

    def test_all_trees_of_six_places(self):
        made = trees(full("abcdef", 2))
        self.assertEqual((len(made), made), (6 ** 4, sorted(set(made))))

    def test_sixty_steps(self):
        counts = full("abcdef", 2)
        self.assertEqual(counts.total, 60)
        self.assertEqual(how_many(counts), sum(with_tree(counts, tree) for tree in trees(counts)))
        # Six places with ten exits each, the end's among them: known from the numbers of trees and orders.
        orders, lasts = 113400, 113400 // 5
        self.assertEqual(how_many(counts), 6 ** 4 * lasts ** 5 * orders)


if __name__ == "__main__":
    unittest.main()
