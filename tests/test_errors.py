"""The refusals: their families, their fields, what they are made of."""

import unittest

from wavehall import errors

TOLD = ["NoBands", "NoTuning", "NoPrices", "NoLeak", "NoName", "NoPlace", "NoPower", "NoNeed", "NoHours",
        "NoHour", "Taken"]
FIELDS = {"NoStation": "name", "Silent": "name", "TooMany": "most", "NoLicence": "number", "Busy": "at",
          "Disturbs": "at"}


class Families(unittest.TestCase):
    def test_any_refusal_is_a_value_error(self):
        self.assertEqual(errors.WaveError.__bases__, (ValueError,))

    def test_two_families_stand_straight_under_it(self):
        self.assertEqual(errors.ToldError.__bases__, (errors.WaveError,))
        self.assertEqual(errors.AskedError.__bases__, (errors.WaveError,))

    def test_each_class_stands_straight_under_its_family(self):
        for name in TOLD:
            with self.subTest(name):
                self.assertEqual(getattr(errors, name).__bases__, (errors.ToldError,))
        for name in [*FIELDS, "Full"]:
            with self.subTest(name):
                self.assertEqual(getattr(errors, name).__bases__, (errors.AskedError,))

    def test_there_are_no_other_classes(self):
        classes = [name for name, thing in vars(errors).items() if isinstance(thing, type)]
        self.assertEqual(sorted(classes), sorted([*TOLD, *FIELDS, "Full", "WaveError", "ToldError", "AskedError"]))


class Making(unittest.TestCase):
    def test_fields_by_place_and_by_name(self):
        for name, field in FIELDS.items():
            for worth in (0, 7, "ab", "", None, [1, ["x"]], (2, True)):
                with self.subTest(name, worth=worth):
                    kind = getattr(errors, name)
                    self.assertEqual(vars(kind(worth)), {field: worth})
                    self.assertEqual(vars(kind(**{field: worth})), {field: worth})

    def test_what_was_handed_in_is_kept_as_a_copy(self):
        for name in ("NoStation", "Silent", "NoLicence"):
            with self.subTest(name):
                thing = [1, (["x"], None), [True, []]]
                made = getattr(errors, name)(thing)
                thing[1][0].append(2)
                thing[2][1].append(3)
                thing.append(4)
                self.assertEqual(repr(list(vars(made).values())), "[[1, (['x'], None), [True, []]]]")

    def test_a_field_must_be_told(self):
        for name in FIELDS:
            with self.subTest(name), self.assertRaises(TypeError):
                getattr(errors, name)()

    def test_those_without_fields_are_made_of_a_text(self):
        for name in [*TOLD, "Full", "WaveError", "ToldError", "AskedError"]:
            with self.subTest(name):
                made = getattr(errors, name)("a text")
                self.assertEqual(str(made), "a text")
                self.assertEqual(vars(made), {})

    def test_those_with_fields_say_something(self):
        for name in FIELDS:
            with self.subTest(name):
                self.assertIn("5", str(getattr(errors, name)(5)))
