"""Point 0.3 and the list of oncetwice/errors.py: each class, its base, its fields."""

import copy
import unittest

from oncetwice import errors
from tests.helping import odd_things

BARE = [
    "NoProgram", "NoContents", "NoOrder", "NoMoment", "NoPrices", "NoNumber", "NoTimetable", "NotOnto",
    "NotAlike", "NotWhole", "NoSources", "NoRow", "NoCompiled", "NotRunning", "NothingDone", "NoCell",
    "NoItem", "IsLocked", "NotLocked", "NoWay", "NoLine", "NoRunner",
]
FIELDS = {
    "BadWish": "part", "TooMany": "most", "BadTable": "part", "BadCode": "part", "BadText": "line",
    "NoName": "name",
}


class ErrorsTest(unittest.TestCase):

    def classes(self):
        return [getattr(errors, name) for name in BARE + list(FIELDS)]

    def test_cell_error_derives_directly_from_value_error(self):
        self.assertEqual(errors.CellError.__bases__, (ValueError,))

    def test_each_class_derives_directly_from_cell_error(self):
        for made in self.classes():
            self.assertEqual(made.__bases__, (errors.CellError,), made)

    def test_each_class_has_its_own_name_and_stands_in_this_file(self):
        for name in BARE + list(FIELDS) + ["CellError"]:
            made = getattr(errors, name)
            self.assertEqual((made.__name__, made.__module__), (name, "oncetwice.errors"))

    def test_no_two_are_the_same_class(self):
        self.assertEqual(len(set(self.classes())), 28)
        for one in self.classes():
            for other in self.classes():
                self.assertEqual(issubclass(one, other), one is other)

    def test_bare_ones_are_made_with_nothing(self):
        for name in BARE:
            made = getattr(errors, name)
            self.assertEqual(vars(made()), {}, name)
            with self.assertRaises(TypeError):
                made(1)

    def test_a_field_keeps_what_is_passed_as_it_is(self):
        for name, field in FIELDS.items():
            for thing in odd_things() + [("row", 3), 4, 0, -1, 10 ** 40]:
                error = getattr(errors, name)(thing)
                self.assertEqual(list(vars(error)), [field])
                self.assertIs(getattr(error, field), thing)

    def test_a_field_is_needed_and_there_is_one_alone(self):
        for name in FIELDS:
            with self.assertRaises(TypeError):
                getattr(errors, name)()
            with self.assertRaises(TypeError):
                getattr(errors, name)(1, 2)

    def test_they_can_be_raised_copied_and_caught_by_each_base(self):
        for name in BARE + list(FIELDS):
            error = getattr(errors, name)(*([("rows",)] if name in FIELDS else []))
            for base in (getattr(errors, name), errors.CellError, ValueError):
                with self.assertRaises(base):
                    raise error
            self.assertEqual(vars(copy.copy(error)), vars(error))

    def test_an_error_is_equal_to_nothing_of_another_kind(self):
        for made in self.classes():
            error = made(*([("rows",)] if made.__name__ in FIELDS else []))
            for thing in odd_things():
                self.assertFalse(error == thing)
