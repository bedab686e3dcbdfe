import copy
import unittest

from logcores import errors
from logcores.errors import CoreError, NothingToRedo, NothingToUndo
from tests.helper import any_objects

WITH_VALUE = [
    "InvalidKind", "InvalidTable", "InvalidKinds", "InvalidPairs", "InvalidWord", "InvalidRule", "InvalidMap",
    "InvalidNames", "InvalidBook", "InvalidName", "InvalidLog", "InvalidLogs", "InvalidMerging", "InvalidStrike",
    "InvalidRoad", "InvalidPlaces", "InvalidCount", "InvalidFuture", "InvalidValue", "InvalidStore", "InvalidInputs",
    "InvalidFolding", "InvalidJournal", "InvalidSpot", "InvalidScript", "InvalidText", "InvalidRecord", "Unlike",
    "Apart", "Unsettled", "Boundless", "Refused",
]
WITHOUT_VALUE = ["NothingToUndo", "NothingToRedo"]


def class_of(name):
    return getattr(errors, name)


class TheClasses(unittest.TestCase):
    def test_core_error_is_a_value_error(self):
        self.assertEqual(CoreError.__bases__, (ValueError,))

    def test_the_others_derive_from_it_and_from_none_of_them(self):
        for name in WITH_VALUE + WITHOUT_VALUE:
            self.assertEqual(class_of(name).__bases__, (CoreError,), name)

    def test_none_is_caught_for_another_one(self):
        made = [class_of(name)() for name in WITH_VALUE + WITHOUT_VALUE]
        for error in made:
            for name in WITH_VALUE + WITHOUT_VALUE:
                self.assertEqual(isinstance(error, class_of(name)), type(error).__name__ == name)

    def test_no_other_class_is_there(self):
        told = [name for name, value in vars(errors).items() if isinstance(value, type)]
        self.assertEqual(sorted(told), sorted(["CoreError"] + WITH_VALUE + WITHOUT_VALUE))


class TheField(unittest.TestCase):
    def test_by_position_by_name_and_left_out(self):
        for name in WITH_VALUE:
            self.assertEqual(class_of(name)("a").value, "a")
            self.assertEqual(class_of(name)(value="a").value, "a")
            self.assertIs(class_of(name)().value, None)

    def test_it_is_the_very_object(self):
        for name in WITH_VALUE:
            for value in any_objects():
                self.assertIs(class_of(name)(value).value, value)
                self.assertIs(class_of(name)(value=value).value, value)

    def test_it_goes_along_with_what_is_done_to_the_object(self):
        rows = ["a"]
        error = class_of("InvalidLog")(rows)
        rows.append("b")
        self.assertEqual(error.value, ["a", "b"])

    def test_more_than_one_argument_is_too_much(self):
        for name in WITH_VALUE:
            with self.assertRaises(TypeError):
                class_of(name)("a", "b")

    def test_the_others_are_made_of_nothing_and_have_none(self):
        for made in (CoreError(), NothingToUndo(), NothingToRedo()):
            self.assertFalse(hasattr(made, "value"))
        for kind in (CoreError, NothingToUndo, NothingToRedo):
            with self.assertRaises(TypeError):
                kind("a")

    def test_each_can_be_raised_and_caught_as_core_error_and_value_error(self):
        for name in WITH_VALUE + WITHOUT_VALUE:
            for caught in (class_of(name), CoreError, ValueError):
                with self.assertRaises(caught):
                    raise class_of(name)()

    def test_a_copied_error_keeps_its_field(self):
        for name in WITH_VALUE:
            self.assertEqual(copy.copy(class_of(name)(["a"])).value, ["a"])


if __name__ == "__main__":
    unittest.main()
