"""Points 1, 2, 3 and 18: a log that forgets the order."""

import random
import unittest

from countedsteps.counts import Counts
from countedsteps.errors import Apart, NothingDone, Still
from countedsteps.journeys import exits
from countedsteps.log import Log
from helping import GREAT, Raising, followed, walked


class Model:
    """What a test keeps by itself: the whole journey, as it was ahead of each deed."""

    def __init__(self, start, diaries):
        self.paths = [(start,)]
        self.diaries = tuple(sorted(set(diaries)))

    @property
    def path(self):
        return self.paths[-1]

    def lists(self, path):
        return tuple((place, exits(path, place)) for place in self.diaries)

    def possible(self):
        journeys = followed(Counts.of(self.path))
        return len([journey for journey in journeys if self.lists(journey) == self.lists(self.path)])


class DocumentExamples(Raising):
    def test_examples(self):
        log, book = Log("a"), Log("a", diaries=("a",))
        self.assertEqual((log.walk(("b", "a", "c", "a")), book.walk(["b", "a", "c", "a"])), (4, 4))
        self.assertEqual((log.counts.text, log.here), ("from a\na b 1\na c 1\nb a 1\nc a 1", "a"))
        self.assertEqual((log.possible(), book.possible(), book.lists), (2, 1, (("a", ("b", "c")),)))
        self.assertEqual((log.is_told(), book.is_told()), (False, True))
        self.check_raises(Still, {"place": "a"}, lambda: log.go("a"))
        self.assertEqual((len(log), log.back(), log.here, log.counts.total), (1, None, "a", 0))
        self.assertIs(log == Log("a"), True)


class AgainstWhatIsKept(Raising):
    def test_deeds(self):
        for seed in range(40):
            rng = random.Random(seed)
            diaries = tuple(rng.choice("abcx") for _ in range(rng.randint(0, 3)))
            log, model = Log("a", diaries=diaries), Model("a", diaries)
            for _ in range(25):
                self.do_one(rng, log, model)
                self.check_state(log, model)

    def do_one(self, rng, log, model):
        deed = rng.choice(["go", "walk", "add", "back", "still", "apart", "late"])
        here = model.path[-1]
        row = walked(rng, "abc", rng.randint(0, 3))
        row = row if row[0] == here else (here, *row)
        if deed == "back" or len(model.path) > 8:
            self.take_back(log, model)
        elif deed == "go":
            place = rng.choice([place for place in "abc" if place != here])
            self.assertIsNone(log.go(place))
            model.paths.append((*model.path, place))
        elif deed == "walk":
            self.assertEqual(log.walk(row[1:]), len(row) - 1)
            model.paths.append((*model.path, *row[1:]))
        elif deed == "add":
            same = log
            log += row
            self.assertIs(log, same)
            model.paths.append((*model.path, *row[1:]))
        elif deed == "still":
            self.check_raises(Still, {"place": here}, lambda: log.go(here))
        elif deed == "apart":
            self.check_raises(Apart, {"end": here, "begin": "y"}, lambda: log.__iadd__(("y", here)))
        else:
            self.check_raises(Still, {"place": row[-1]}, lambda: log.walk((*row[1:], row[-1], "z", "z")))

    def take_back(self, log, model):
        if len(model.paths) == 1:
            self.check_raises(NothingDone, {}, log.back)
        else:
            self.assertIsNone(log.back())
            model.paths.pop()

    def check_state(self, log, model):
        self.assertEqual((log.start, log.here, len(log)), (model.path[0], model.path[-1], len(model.paths) - 1))
        self.assertEqual((log.counts, log.lists), (Counts.of(model.path), model.lists(model.path)))
        self.assertEqual(log.possible(), model.possible())
        self.assertIs(log.is_told(), model.possible() == 1)
        same = Log("a", diaries=model.diaries)
        same.walk(model.path[1:])
        self.assertIs(log == same, True)

    def test_back_to_the_beginning(self):
        rng = random.Random(9)
        log, model = Log("a", diaries=("b",)), Model("a", ("b",))
        for _ in range(30):
            self.do_one(rng, log, model)
        while len(model.paths) > 1:
            self.take_back(log, model)
            self.check_state(log, model)
        self.check_raises(NothingDone, {}, log.back)
        self.assertIs(log == Log("a", diaries=("b",)), True)


class Edges(Raising):
    def test_a_new_log(self):
        log = Log("m", diaries=("z", "a", "z", "m"))
        self.assertEqual((log.start, log.here, log.counts, len(log)), ("m", "m", Counts("m"), 0))
        self.assertEqual(log.lists, (("a", ()), ("m", ()), ("z", ())))
        self.assertEqual((log.possible(), log.is_told(), Log("m").lists), (1, True, ()))
        self.check_raises(NothingDone, {}, log.back)

    def test_deeds_without_steps(self):
        log = Log("m")
        self.assertEqual(log.walk(()), 0)
        log += ("m",)
        self.assertEqual((len(log), log == Log("m")), (2, True))
        self.assertEqual((log.back(), log.back(), len(log)), (None, None, 0))

    def test_what_is_refused_changes_nothing(self):
        log = Log("a", diaries=("a", "b"))
        log.walk(("b", "a"))
        twin = log.twin()
        self.check_raises(Still, {"place": "c"}, lambda: log.walk(("b", "c", "c", "c", "b", "b")))
        self.check_raises(Still, {"place": "a"}, lambda: log.walk(("a", "b", "b")))
        self.check_raises(Still, {"place": "a"}, lambda: log.go("a"))
        self.check_raises(Apart, {"end": "a", "begin": "b"}, lambda: log.__iadd__(("b", "a")))
        self.assertEqual((log == twin, len(log), log.lists), (True, 1, (("a", ("b",)), ("b", ("a",)))))

    def test_a_walk_is_one_deed(self):
        log = Log("a")
        log.walk(("b", "c", "b"))
        log.go("d")
        log.back()
        self.assertEqual((log.here, len(log)), ("b", 1))
        log.back()
        self.assertEqual((log.here, log.counts), ("a", Counts("a")))

    def test_twins_share_nothing(self):
        log = Log("a", diaries=("a",))
        log.walk(("b", "a"))
        log.go("c")
        twin = log.twin()
        self.assertEqual((twin == log, len(twin), twin.here, twin.lists), (True, 2, "c", (("a", ("b", "c")),)))
        twin.go("a")
        self.assertEqual((len(log), log.here, twin == log), (2, "c", False))
        log.back()
        log.back()
        self.assertEqual((len(log), len(twin), twin.here), (0, 3, "a"))
        for _ in range(3):
            twin.back()
        self.assertIs(twin == log, True)
        self.check_raises(NothingDone, {}, twin.back)

    def test_equality(self):
        log = Log("a", diaries=("a",))
        log.walk(("b", "a", "c", "a"))
        same, other, none = Log("a", diaries=("a",)), Log("a", diaries=("a",)), Log("a")
        for place in "baca":
            same.go(place)
        other.walk(("c", "a", "b", "a"))
        none.walk(("b", "a", "c", "a"))
        self.assertIs(log == same, True)
        self.assertIs(log != same, False)
        # The exit lists are unlike, or which of them are kept, or where one is.
        for thing in [other, none, Log("a"), log.counts, log.lists, "a", None, 4, (), Log("a", diaries=("a", "b"))]:
            self.assertIs(log == thing, False)
            self.assertIs(thing == log, False)
        self.assertIs(Log("a") == Log("b"), False)
        self.assertIs(none == Log("a"), False)
        self.assertIs(none == none.twin(), True)

    def test_no_setters_and_no_iteration(self):
        log = Log("a")
        for name in ["start", "here", "counts", "lists"]:
            with self.assertRaises(AttributeError):
                setattr(log, name, getattr(log, name))
        with self.assertRaises(TypeError):
            iter(log)
        with self.assertRaises(TypeError):
            Log("a", ("a",))


class HowArgumentsCome(Raising):
    def test_lists_for_tuples(self):
        diaries, places, journey = ["b", "a", "b"], ["b", "a"], ["a", "c", "a"]
        log, same = Log("a", diaries=diaries), Log("a", diaries=("a", "b"))
        self.assertEqual((log.walk(places), same.walk(("b", "a"))), (2, 2))
        log += journey
        same += ("a", "c", "a")
        self.assertIs(log == same, True)
        self.assertEqual((diaries, places, journey), (["b", "a", "b"], ["b", "a"], ["a", "c", "a"]))
        self.check_raises(Apart, {"end": "a", "begin": "b"}, lambda: log.__iadd__(["b", "a"]))

    def test_arguments_are_copied(self):
        diaries, places = ["a"], ["b", "a"]
        log = Log("a", diaries=diaries)
        log.walk(places)
        diaries.append("b")
        places.clear()
        self.assertEqual((log.lists, log.counts.total), ((("a", ("b",)),), 2))

    def test_by_name(self):
        log = Log(diaries=("b",), start="a")
        self.assertIsNone(log.go(place="b"))
        self.assertEqual((log.walk(places=("a",)), log.lists), (1, (("b", ("a",)),)))

    def test_kinds_of_values(self):
        log = Log("a", diaries=["a"])
        log.walk(["b", "a"])
        for value in [log.lists, log.lists[0], log.lists[0][1]]:
            self.assertIs(value.__class__, tuple)
        counts = log.counts
        log.go("b")
        self.assertEqual((counts.total, log.counts.total), (2, 3))


class AtTheBounds(unittest.TestCase):
    def test_sixty_steps(self):
        journey = walked(random.Random(181), "abcdefgh", 60)
        log, book = Log(journey[0], diaries=tuple("abcd")), Log(journey[0], diaries=tuple("abcdefgh"))
        for place in journey[1:]:
            log.go(place)
        book += journey
        self.assertEqual((len(log), log.counts), (60, Counts.of(journey)))
        self.assertGreater(log.possible(), GREAT // GREAT)
        self.assertIs(book.is_told(), True)
        for _ in range(60):
            log.back()
        self.assertIs(log == Log(journey[0], diaries=tuple("abcd")), True)


if __name__ == "__main__":
    unittest.main()
