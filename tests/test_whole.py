"""Points 1, 2 and 3: what the document promises over the whole program, call by call."""

import copy
import importlib
import inspect
import unittest

from countedsteps.counts import Counts
from countedsteps.log import Log
from countedsteps.ranks import Journeys
from countedsteps.several import Several
from countedsteps.torn import Torn
from countedsteps.windows import Windows
from helping import ODD_THINGS
from test_interface import CLASSES, FUNCTIONS

TRIP = ("a", "b", "a", "c", "a")
COUNTS = Counts.of(TRIP)
STEPS = (("a", "b", 2), ("b", "c", 1), ("d", "b", 1))
TABLE = ((("-", "b"), 1), (("b", "c"), 1), (("c", "-"), 1))
WINDOWS = Windows.of(TRIP, 2)
# Values that do for the parameters of these names, wherever nothing else is told.
VALUES = {
    "counts": COUNTS, "journey": TRIP, "place": "a", "other": "b", "one": "a", "thing": None, "stretch": ("b", "a"),
    "stretches": (("b", "a"), ("a", "c")), "windows": WINDOWS, "size": 2, "places": ("b", "c"), "steps": STEPS,
    "start": "a", "end": "c", "lists": (("a", ("b", "c")), ("b", ("a",))), "text": "from a\na b 1",
    "names": (("b", "x"), ("c", "a")), "many": 1, "numbers": (1, 2), "rows": ((1, 2), (3, 5)),
    "tree": (("b", "a"), ("c", "a")), "members": (("a", 0),), "table": TABLE, "tables": (("a", TABLE),), "number": 0,
    "most": 5, "told": (("a", TABLE),), "first": True, "row": ("a", "b"), "request": "turn", "notes": (("a", ("b", "?")),),
    "head": ("a",), "pairs": ((("a", "b"), 2), (("b", "a"), 1)), "begins": (("a", 1), ("b", 1)),
    "ends": (("b", 1), ("a", 1)), "diaries": ("b", "a", "b"),
}
# Other values for single functions.
APART = {
    "joined": {"one": TRIP, "other": ("a", "b")}, "told_apart": {"one": TRIP, "other": ("a", "c", "a", "b", "a")},
    "share_out": {"number": 1}, "can_be_last": {"steps": (("a", "b"),)}, "share_together": {"steps": (("a", "b"),)},
    "journey_with_last": {"steps": (("a", "b"),)}, "steps_text": {"steps": (("a", "b"), ("b", "c"))},
    "journey_of": {"text": "a > b"}, "answers": {"text": "from a\na b 1\n\nwhy\ngo b\nundo"},
    "journey_passing": {"one": "b", "other": "c"}, "pass_range": {"one": "b", "place": "b"},
    "must_pass": {"place": "b"}, "may_pass": {"place": "b"}, "gone": {"place": "b"},
}


def as_lists(value):
    """The value with a list for each tuple, at any depth."""
    return [as_lists(member) for member in value] if isinstance(value, (list, tuple)) else value


def as_told(value):
    """The value as what it tells, so that two of them can be compared."""
    if isinstance(value, (list, tuple)):
        return value.__class__([as_told(member) for member in value])
    if isinstance(value, Windows):
        return ("Windows", value.size, value.head, value.pairs)
    return value


def functions():
    """All functions of the interface, each with the values of its parameters."""
    for module, names in FUNCTIONS.items():
        for name in names:
            function = getattr(importlib.import_module(module), name)
            chosen = {**VALUES, **APART.get(name, {})}
            yield function, {word: chosen[word] for word in inspect.signature(function).parameters}


def objects():
    """An object of each class of the interface, and the values with which it is made."""
    for (module, name), _ in CLASSES.items():
        made = getattr(importlib.import_module(module), name)
        words = inspect.signature(made).parameters
        yield made, {word: VALUES[word] for word in words}


def positional(function, values):
    """The values that may be passed by position, and those that are passed by name alone."""
    words = inspect.signature(function).parameters
    alone = {word for word in words if words[word].kind is words[word].KEYWORD_ONLY}
    return [values[word] for word in values if word not in alone], {word: values[word] for word in alone}


class EachFunction(unittest.TestCase):
    def test_lists_for_tuples_and_names(self):
        for function, values in functions():
            with self.subTest(function.__name__):
                row, named = positional(function, values)
                result = as_told(function(*row, **named))
                self.assertEqual(as_told(function(**values)), result)
                lists = {word: value if word == "thing" else as_lists(value) for word, value in values.items()}
                before = copy.deepcopy(lists)
                self.assertEqual(as_told(function(**lists)), result)
                self.assertEqual(lists, before)

    def test_twice_and_changed_in_between(self):
        for function, values in functions():
            with self.subTest(function.__name__):
                result = function(**values)
                told = as_told(copy.deepcopy(result))
                if isinstance(result, list):
                    result.append("new")
                self.assertEqual(as_told(function(**values)), told)

    def test_by_name_alone(self):
        for function, values in functions():
            row, named = positional(function, values)
            if named:
                with self.subTest(function.__name__), self.assertRaises(TypeError):
                    function(*row, *named.values())

    def test_no_thing_is_taken_for_another(self):
        for function, values in functions():
            if "thing" in values:
                for thing in ODD_THINGS:
                    with self.subTest(function.__name__, thing=thing):
                        self.assertIn(function(**{**values, "thing": thing}), (True, False))


class EachObject(unittest.TestCase):
    def state(self, made):
        """What the object's properties tell."""
        names = [name for name, value in vars(made.__class__).items() if isinstance(value, property)]
        return {name: as_told(getattr(made, name)) for name in names}

    def test_arguments_are_copied(self):
        for made_by, values in objects():
            with self.subTest(made_by.__name__):
                state = self.state(made_by(**values))
                lists = {word: as_lists(value) for word, value in values.items()}
                made = made_by(**lists)
                self.assertEqual(self.state(made), state)
                for value in lists.values():
                    if isinstance(value, list):
                        value[0] = "spoiled"
                        value.clear()
                self.assertEqual(self.state(made), state)

    def test_each_is_unlike_all_others(self):
        made = [made_by(**values) for made_by, values in objects()]
        for one in made:
            for other in [*made, *ODD_THINGS, TRIP, WINDOWS.pairs]:
                if other.__class__ is not one.__class__:
                    self.assertIs(one == other, False)
                    self.assertIs(other == one, False)

    def test_questions_change_nothing(self):
        kept = [Journeys(COUNTS), Torn(COUNTS, (("a", ("b", "?")),)), Several.of((TRIP, ("b", "a"))), WINDOWS, COUNTS]
        before = [self.state(made) for made in kept]
        asked = {**VALUES, "row": (TRIP, ("b", "a")), "one": "a", "other": "b", "number": 0, "many": 0}
        for made in kept:
            for name, method in vars(made.__class__).items():
                if inspect.isfunction(method) and not name.startswith("_"):
                    words = list(inspect.signature(method).parameters)[1:]
                    values = {word: TRIP if (name, word) == ("between", "row") else asked[word] for word in words}
                    try:
                        result = getattr(made, name)(**values)
                    except (LookupError, ValueError) as refused:
                        result = refused
                    if isinstance(result, list):
                        result.clear()
        self.assertEqual([self.state(made) for made in kept], before)

    def test_what_is_told_belongs_to_the_caller(self):
        log = Log("a", diaries=("a",))
        log.walk(TRIP[1:])
        told = (log.counts, log.lists)
        log.walk(("b", "a"))
        self.assertEqual(told, (COUNTS, (("a", ("b", "c")),)))
        one, other = COUNTS, Counts.of(TRIP)
        one += Counts.of(("a", "b"))
        self.assertEqual((COUNTS, one - Counts.of(("a", "b"))), (other, other))


if __name__ == "__main__":
    unittest.main()
