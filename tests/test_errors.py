"""The interface, errors.py: families, fields, and how each one is made."""

import unittest

from tidecopy import errors

TOLD = {"NoTable": None, "NoChange": None, "NoStretch": None, "NoRows": None, "NoName": None,
        "NoText": "line", "NoRow": None, "TooMany": "many", "Twice": None}
ASKED = {"NoPlace": "at", "NoLife": "who", "NoReading": "number", "Ended": None, "NotEnded": None,
         "Held": "who", "Trimmed": "at", "Waits": "number", "NotAsked": "number", "NoKey": "key",
         "NotSure": "key", "NoTaker": "name", "NotOnWire": "number", "NothingLeft": None}
FIELDS = {**TOLD, **ASKED}
FIELD_NAMES = {field for field in FIELDS.values() if field is not None}
WORTHS = (0, 7, -1, 10 ** 40 - 1, "anna", "", "a\nb~")


def class_of(name):
    return getattr(errors, name)


def made(name):
    return class_of(name)("why") if FIELDS[name] is None else class_of(name)(3)


class Families(unittest.TestCase):
    def test_the_family_tree(self):
        self.assertEqual(errors.TideError.__bases__, (ValueError,))
        self.assertEqual(errors.ToldError.__bases__, (errors.TideError,))
        self.assertEqual(errors.AskedError.__bases__, (errors.TideError,))

    def test_each_class_stands_straight_under_its_family(self):
        for name in TOLD:
            self.assertEqual(class_of(name).__bases__, (errors.ToldError,), name)
        for name in ASKED:
            self.assertEqual(class_of(name).__bases__, (errors.AskedError,), name)

    def test_no_class_is_of_another_family_or_class(self):
        for name in FIELDS:
            error = made(name)
            self.assertEqual(isinstance(error, errors.ToldError), name in TOLD, name)
            self.assertEqual(isinstance(error, errors.AskedError), name in ASKED, name)
            for other in FIELDS:
                self.assertEqual(isinstance(error, class_of(other)), name == other, (name, other))

    def test_each_is_caught_as_any_refusal_and_as_a_value_error(self):
        for name in FIELDS:
            for family in (errors.TideError, ValueError):
                with self.assertRaises(family):
                    raise made(name)

    def test_each_class_is_defined_in_errors(self):
        for name in ("TideError", "ToldError", "AskedError", *FIELDS):
            self.assertEqual((class_of(name).__module__, class_of(name).__name__), ("tidecopy.errors", name))


class Fields(unittest.TestCase):
    def test_by_places_and_by_names(self):
        for name, field in FIELDS.items():
            if field is None:
                continue
            for worth in WORTHS:
                self.assertEqual(getattr(class_of(name)(worth), field), worth)
                self.assertEqual(getattr(class_of(name)(**{field: worth}), field), worth)

    def test_each_has_its_own_field_alone(self):
        for name, field in FIELDS.items():
            error = made(name)
            self.assertEqual({other for other in FIELD_NAMES if hasattr(error, other)},
                             set() if field is None else {field}, name)

    def test_fields_must_be_handed_in_but_for_the_line(self):
        for name, field in FIELDS.items():
            if field not in (None, "line"):
                self.assertRaises(TypeError, class_of(name))

    def test_no_text_has_a_line_or_none(self):
        self.assertIs(errors.NoText().line, None)
        self.assertIs(errors.NoText(None).line, None)
        self.assertIs(errors.NoText(line=None).line, None)
        self.assertEqual(errors.NoText(1).line, 1)
        self.assertEqual(errors.NoText(line=4).line, 4)
        self.assertEqual(errors.NoText(0).line, 0)

    def test_those_without_fields_are_made_of_a_text(self):
        for name, field in FIELDS.items():
            if field is None:
                self.assertEqual(str(class_of(name)("so it is")), "so it is")

    def test_two_objects_do_not_share_their_fields(self):
        one, other = errors.NoPlace(1), errors.NoPlace(2)
        self.assertEqual((one.at, other.at), (1, 2))


if __name__ == "__main__":
    unittest.main()
