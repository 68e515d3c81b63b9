"""The errors: their bases, their attributes."""

import unittest

from bushcoins import errors
from tests.samples import Case, anything

PLAIN_ERRORS = ("UnlikeGroves", "TooGreat", "Overlaps", "NothingDone")
PATH_ERRORS = ("BadBook", "BadBag", "BadGrove", "BadAssembly", "BadPattern")
TOLD_ERRORS = {
    "UnlikeStocks": ("word",),
    "BadDeed": ("number",),
    "BadAct": ("word",),
    "BadText": ("place",),
    "Unbuilt": ("word", "value"),
    "Clash": ("number",),
}


def beneath_bush_error():
    return [getattr(errors, name) for name in (*PLAIN_ERRORS, *PATH_ERRORS, *TOLD_ERRORS)]


class TestBases(Case):
    def test_bush_error_is_a_value_error(self):
        self.assertEqual(errors.BushError.__bases__, (ValueError,))
        self.assertFalse(issubclass(errors.BushError, LookupError))

    def test_direct_subclasses_of_bush_error(self):
        for error in beneath_bush_error():
            self.assertEqual(error.__bases__, (errors.BushError,), error.__name__)

    def test_name_missing_is_a_lookup_error_only(self):
        self.assertEqual(errors.NameMissing.__bases__, (LookupError,))
        self.assertFalse(issubclass(errors.NameMissing, ValueError))
        self.assertFalse(issubclass(errors.NameMissing, errors.BushError))

    def test_unknown_name(self):
        self.assertEqual(errors.UnknownName.__bases__, (errors.NameMissing,))

    def test_no_error_is_of_a_siblings_class(self):
        all_errors = beneath_bush_error() + [errors.UnknownName]
        for one in all_errors:
            for other in all_errors:
                self.assertEqual(issubclass(one, other), one is other, (one, other))

    def test_names_and_module(self):
        for error in beneath_bush_error() + [errors.BushError, errors.NameMissing, errors.UnknownName]:
            self.assertEqual(error.__module__, "bushcoins.errors")

    def test_they_are_raised_and_caught(self):
        with self.assertRaises(ValueError):
            raise errors.BadBook((1,))
        with self.assertRaises(errors.BushError):
            raise errors.Overlaps()
        with self.assertRaises(LookupError):
            raise errors.UnknownName("x")


class TestAttributes(Case):
    def test_errors_without_arguments(self):
        for name in PLAIN_ERRORS:
            self.assertIsInstance(getattr(errors, name)(), errors.BushError)

    def test_path_as_a_list_and_as_a_tuple(self):
        for name in PATH_ERRORS:
            error = getattr(errors, name)
            for path in ((), (3,), (1, 0, 2), [], [3], [1, 0, 2]):
                kept = error(path).path
                self.assertIs(type(kept), tuple)
                self.assertEqual(kept, tuple(path))

    def test_a_path_keeps_no_list(self):
        for name in PATH_ERRORS:
            path = [1, 2]
            raised = getattr(errors, name)(path)
            path.append(3)
            self.assertEqual(raised.path, (1, 2))

    def test_a_path_with_anything_in_it(self):
        for name in PATH_ERRORS:
            for value in anything():
                self.assertIs(getattr(errors, name)([value]).path[0], value)

    def test_other_arguments_are_kept_as_they_are(self):
        for name, attributes in TOLD_ERRORS.items():
            for value in anything():
                told = [value] + ["other"] * (len(attributes) - 1)
                raised = getattr(errors, name)(*told)
                for attribute, kept in zip(attributes, told):
                    self.assertIs(getattr(raised, attribute), kept)

    def test_value_of_unbuilt(self):
        for value in anything():
            raised = errors.Unbuilt("closed", value)
            self.assertEqual(raised.word, "closed")
            self.assertIs(raised.value, value)

    def test_name_of_unknown_name(self):
        for value in anything():
            self.assertIs(errors.UnknownName(value).name, value)


if __name__ == "__main__":
    unittest.main()
