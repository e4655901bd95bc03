"""The interface: what must exist, under which name, in which file, with which parameters."""

import importlib
import inspect
import unittest

FUNCTIONS = {
    "countedsteps.journeys": {
        "is_place": ["thing"], "is_step": ["thing"], "is_journey": ["thing"], "steps_of": ["journey"],
        "visits": ["journey", "place"], "exits": ["journey", "place"], "entries": ["journey", "place"],
        "turned": ["journey"], "joined": ["one", "other"], "seen": ["journey", "names"],
    },
}
METHODS = {
    ("countedsteps.counts", "Counts"): {
        "outs": ["place"], "ins": ["place"], "nexts": ["place"], "befores": ["place"],
        "begun": ["place"], "check": ["place"],
    },
}
SIGNS = {
    ("countedsteps.counts", "Counts"): ["__getitem__", "__contains__", "__iter__", "__eq__", "__add__", "__sub__"],
}
PROPERTIES = {
    ("countedsteps.counts", "Counts"): ["start", "steps", "places", "total", "text"],
}


def parameters(function):
    return list(inspect.signature(function).parameters)


def own_class(where):
    """The class with the names of its own body."""
    module, name = where
    return vars(getattr(importlib.import_module(module), name))


class Interface(unittest.TestCase):
    def test_functions(self):
        for module, functions in FUNCTIONS.items():
            for name, names in functions.items():
                function = getattr(importlib.import_module(module), name)
                self.assertEqual((function.__module__, parameters(function)), (module, names), name)

    def test_methods(self):
        for where, methods in METHODS.items():
            for name, names in methods.items():
                self.assertEqual(parameters(own_class(where)[name]), ["self", *names], name)

    def test_signs(self):
        for where, names in SIGNS.items():
            for name in names:
                self.assertIn(name, own_class(where))

    def test_properties_without_setters(self):
        for where, names in PROPERTIES.items():
            for name in names:
                self.assertIsInstance(own_class(where)[name], property)
                self.assertIsNone(own_class(where)[name].fset)

    def test_counts(self):
        own = own_class(("countedsteps.counts", "Counts"))
        self.assertEqual(own["__module__"], "countedsteps.counts")
        self.assertEqual(parameters(own["__init__"]), ["self", "start", "steps"])
        self.assertEqual(inspect.signature(own["__init__"]).parameters["steps"].default, ())
        self.assertIsInstance(own["of"], staticmethod)
        self.assertEqual(parameters(own["of"].__func__), ["journey"])


if __name__ == "__main__":
    unittest.main()
