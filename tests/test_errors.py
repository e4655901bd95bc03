"""Point 21: the errors, their bases, their constructors and their attributes."""

import unittest

from countedsteps import errors

LISTED = {
    LookupError: {"NoPlace": ("place",), "NoNumber": ("number",)},
    ValueError: {
        "NoJourney": (), "Apart": ("end", "begin"), "Still": ("place",),
        "Below": ("one", "other", "number"), "Short": ("one", "other", "lacking"),
        "NoSize": ("number",), "Unlike": (), "NoTree": (), "NotCounted": ("one", "other"),
        "TooMany": ("most",), "BadTable": (), "BadLists": ("place",), "BadText": (),
        "BadLine": ("number",), "NothingDone": (),
    },
}
ERRORS = [(base, name, values) for base, row in LISTED.items() for name, values in row.items()]
SAMPLES = {"place": "a", "end": "b", "begin": "c", "one": "d", "other": "e",
           "number": -3, "lacking": 10 ** 30, "most": 0}


class Bases(unittest.TestCase):
    def test_each_is_a_direct_subclass_of_its_base_alone(self):
        for base, name, _ in ERRORS:
            with self.subTest(name):
                self.assertEqual(getattr(errors, name).__bases__, (base,))

    def test_each_is_defined_in_errors_and_no_further_one(self):
        defined = [name for name, value in vars(errors).items() if isinstance(value, type)]
        self.assertEqual(sorted(defined), sorted(name for _, name, _ in ERRORS))
        for name in defined:
            self.assertEqual(getattr(errors, name).__module__, "countedsteps.errors")


class Values(unittest.TestCase):
    def check_values(self, error, values):
        self.assertEqual(vars(error), {name: SAMPLES[name] for name in values})

    def test_values_by_place(self):
        for _, name, values in ERRORS:
            with self.subTest(name):
                self.check_values(getattr(errors, name)(*[SAMPLES[value] for value in values]), values)

    def test_values_by_name(self):
        for _, name, values in ERRORS:
            with self.subTest(name):
                backwards = {value: SAMPLES[value] for value in reversed(values)}
                self.check_values(getattr(errors, name)(**backwards), values)

    def test_too_few_values(self):
        for _, name, values in ERRORS:
            if values:
                with self.subTest(name), self.assertRaises(TypeError):
                    getattr(errors, name)()

    def test_each_is_raised_and_caught_by_its_base(self):
        for base, name, values in ERRORS:
            with self.subTest(name), self.assertRaises(base):
                raise getattr(errors, name)(*[SAMPLES[value] for value in values])


if __name__ == "__main__":
    unittest.main()
