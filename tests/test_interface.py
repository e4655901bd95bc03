"""The interface: what must exist, under which name, in which file, with which parameters."""

import importlib
import inspect
import unittest

# A parameter that is passed by name alone has a star in front; a default value stands behind the sign =.
FUNCTIONS = {
    "countedsteps.journeys": {
        "is_place": "thing", "is_step": "thing", "is_journey": "thing", "steps_of": "journey",
        "visits": "journey place", "exits": "journey place", "entries": "journey place",
        "turned": "journey", "joined": "one other", "seen": "journey names",
    },
    "countedsteps.stands": {
        "surplus": "counts", "pieces": "counts", "why_none": "counts", "is_had": "counts", "end_of": "counts",
        "turned_counts": "counts", "need": "counts", "gone": "counts place", "open_steps": "counts",
        "some_journey": "counts",
    },
    "countedsteps.exact": {"factorial": "many", "arrangements": "numbers", "determinant": "rows"},
    "countedsteps.trees": {
        "how_many": "counts", "last_steps": "journey", "is_tree": "counts thing", "trees": "counts",
        "how_many_trees": "counts", "with_tree": "counts tree", "exit_lists": "journey", "by_lists": "start lists",
    },
    "countedsteps.ranks": {"all_journeys": "counts *most=2000"},
    "countedsteps.torn": {
        "notes_of": "journey members", "members_for": "journey", "fewest_members": "journey",
    },
    "countedsteps.lasts": {
        "last_outs": "counts place", "first_outs": "counts place", "first_ins": "counts place",
        "last_ins": "counts place", "share_last": "counts one other", "share_first_in": "counts one other",
        "share_out": "counts one other *number=0", "share_in": "counts one other *number=0",
        "can_be_last": "counts steps", "share_together": "counts steps", "journey_with_last": "counts steps",
        "sure_lasts": "counts", "sure_first_ins": "counts",
    },
    "countedsteps.passings": {
        "passings": "journey place", "is_table": "thing", "arrivals": "counts place", "departures": "counts place",
        "pieces_without": "counts place", "why_no_table": "counts place table", "can_pass": "counts place table",
        "pass_journey": "counts place table", "pass_range": "counts one place other *told=()",
        "must_pass": "counts place *told=()", "may_pass": "counts place *told=()",
        "journey_passing": "counts one place other many", "range_journeys": "counts one place other",
        "can_pass_all": "counts tables", "pass_all_journey": "counts tables",
    },
    "countedsteps.stretches": {
        "visits_of": "journey stretch", "has_stretch": "counts stretch", "with_stretch": "counts stretch",
        "average": "counts stretch", "begins_with": "counts stretch", "ends_with": "counts stretch",
        "behind": "counts stretch", "has_apart": "counts stretches", "with_apart": "counts stretches",
        "average_apart": "counts stretches", "most_apart": "counts stretch",
    },
    "countedsteps.windows": {
        "why_none_with": "windows", "how_many_with": "windows", "some_with": "windows",
        "all_with": "windows *most=2000", "is_told_by": "journey size", "crossing_by": "journey size",
        "is_crossing_by": "journey size thing", "twin_by": "journey size", "least_window": "journey",
        "numbers_by": "journey", "told_apart": "one other", "window_for_all": "counts *most=2000",
    },
    "countedsteps.visits": {
        "left_order": "journey", "met_order": "journey", "left_ahead": "counts place other",
        "met_ahead": "counts place other", "path_ahead": "counts place other",
        "is_path_ahead": "counts place other thing", "journey_ahead": "counts place other *first=False",
        "always_left": "counts", "always_met": "counts", "sure_beginning": "counts", "sure_end": "counts",
    },
    "countedsteps.diaries": {
        "diaries_of": "journey places", "with_diaries": "counts lists", "by_diaries": "counts lists",
        "needed_for": "journey", "changed_at": "journey place", "tells": "journey places", "needed": "counts",
        "tells_all": "counts places", "two_alike": "counts places",
    },
    "countedsteps.mends": {
        "fewest_journeys": "steps", "covered_by": "steps", "can_begin": "place steps", "mends": "start steps",
        "mend": "start steps", "is_mend": "start steps thing", "mends_to": "start end steps",
        "mend_to": "start end steps",
    },
    "countedsteps.texts": {
        "journey_text": "journey", "journey_of": "text", "counts_of": "text", "windows_text": "windows",
        "windows_of": "text", "steps_text": "steps",
    },
    "countedsteps.desk": {"answers": "text"},
}
# What a class is made with, its methods, its properties without setters, its signs.
CLASSES = {
    ("countedsteps.counts", "Counts"): (
        "start steps=()",
        {"outs": "place", "ins": "place", "nexts": "place", "befores": "place", "begun": "place", "check": "place"},
        "start steps places total text",
        "__getitem__ __contains__ __iter__ __eq__ __add__ __sub__",
    ),
    ("countedsteps.ranks", "Journeys"): (
        "counts",
        {"rank": "journey", "after": "journey", "ahead": "journey", "between": "row"},
        "counts many first last",
        "__getitem__ __contains__ __iter__ __eq__",
    ),
    ("countedsteps.torn", "Torn"): (
        "counts notes=()",
        {"rank": "journey", "between": "row", "may_stand": "place number", "share": "place number other",
         "read": "place number other", "sure": "", "needless": "", "twin": "journey"},
        "counts notes many first last",
        "__getitem__ __contains__ __iter__ __eq__",
    ),
    ("countedsteps.several", "Several"): (
        "begins ends steps=()",
        {"turned": "", "why_none": "", "is_had": "", "how_many": "", "in_order": "places", "is_row": "thing",
         "some_row": "", "row": "number", "rank": "row", "follow_range": "one other", "following": "one other many"},
        "begins ends steps places size",
        "__eq__ __add__",
    ),
    ("countedsteps.windows", "Windows"): (
        "size head pairs=()",
        {"narrower": "", "as_counts": ""},
        "size head pairs total",
        "__getitem__ __contains__ __iter__ __eq__",
    ),
    ("countedsteps.log", "Log"): (
        "start *diaries=()",
        {"go": "place", "walk": "places", "back": "", "possible": "", "is_told": "", "twin": ""},
        "start here counts lists",
        "__iadd__ __len__ __eq__",
    ),
    ("countedsteps.desk", "Desk"): ("counts", {"answer": "request"}, "counts", "__len__"),
}
STATIC = {
    ("countedsteps.counts", "Counts"): {"of": "journey"},
    ("countedsteps.several", "Several"): {"of": "row"},
    ("countedsteps.windows", "Windows"): {"of": "journey size"},
}


def parameters(function):
    """The parameters of the function, as the tables above write them."""
    words = []
    for name, parameter in inspect.signature(function).parameters.items():
        star = "*" if parameter.kind is parameter.KEYWORD_ONLY else ""
        default = "" if parameter.default is parameter.empty else f"={parameter.default!r}"
        words.append(star + name + default)
    return " ".join(words)


def own_class(where):
    """The class with the names of its own body."""
    module, name = where
    return vars(getattr(importlib.import_module(module), name))


class Interface(unittest.TestCase):
    def test_functions(self):
        for module, functions in FUNCTIONS.items():
            for name, names in functions.items():
                function = getattr(importlib.import_module(module), name)
                self.assertEqual((function.__module__, parameters(function)), (module, names), name)

    def test_classes(self):
        for where, (made_with, methods, _, signs) in CLASSES.items():
            own = own_class(where)
            self.assertEqual(own["__module__"], where[0])
            self.assertEqual(parameters(own["__init__"]), f"self {made_with}")
            for name, names in methods.items():
                self.assertEqual(parameters(own[name]), f"self {names}".strip(), name)
            for name in signs.split():
                self.assertIn(name, own)

    def test_properties_without_setters(self):
        for where, (_, _, properties, _) in CLASSES.items():
            for name in properties.split():
                self.assertIsInstance(own_class(where)[name], property)
                self.assertIsNone(own_class(where)[name].fset)

    def test_static_methods(self):
        for where, methods in STATIC.items():
            for name, names in methods.items():
                self.assertIsInstance(own_class(where)[name], staticmethod)
                self.assertEqual(parameters(own_class(where)[name].__func__), names)


if __name__ == "__main__":
    unittest.main()
