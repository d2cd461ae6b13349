"""The errors of the interface: what they derive from, and their fields."""

import unittest
from copy import copy

from chairwalks import errors
from tests.support import DEEP_DICT, DEEP_LIST, DEEP_TUPLE, HUGE, ODD_VALUES

# The fields of each class, in the words of the interface.
OF_CHAIR_ERROR = {
    "TooLarge": "bound", "BadNumbers": "value", "OtherLength": "", "TooMuch": "total", "TooFew": "present",
    "BadWay": "", "BadChairs": "value", "BadRow": "error", "BadWalkers": "value", "BadWants": "value",
    "Busy": "", "TooManyEdits": "", "BadCount": "value", "BadWant": "value", "TooManyWalkers": "",
    "NothingToUndo": "", "BadEdits": "", "BadEdit": "index", "Rejected": "index", "BadPost": "value",
    "BadLeast": "value", "TooLow": "number", "BadText": "index",
}
OF_LOOKUP_ERROR = {"NoStation": "value", "NoWalker": "value", "NoVersion": "value"}
ALL = {**OF_CHAIR_ERROR, **OF_LOOKUP_ERROR}
GIVEN = [0, 1, True, False, None, "", "text", b"x", (), [], {}, HUGE, DEEP_TUPLE, DEEP_LIST, DEEP_DICT,
         object(), ValueError, ValueError("inner"), float("nan")] + ODD_VALUES


def made(name, value):
    """An error of this class, with the value in its field if it has one."""
    if ALL[name]:
        return getattr(errors, name)(value)
    return getattr(errors, name)()


class Errors(unittest.TestCase):
    def test_there_is_nothing_else(self):
        found = {name for name, value in vars(errors).items() if isinstance(value, type)}
        self.assertEqual(found, set(ALL) | {"ChairError"})
        for name in found:
            self.assertEqual(getattr(errors, name).__module__, "chairwalks.errors")
            self.assertEqual(getattr(errors, name).__name__, name)

    def test_bases(self):
        self.assertEqual(errors.ChairError.__bases__, (ValueError,))
        for name in OF_CHAIR_ERROR:
            self.assertEqual(getattr(errors, name).__bases__, (errors.ChairError,), name)
        for name in OF_LOOKUP_ERROR:
            self.assertEqual(getattr(errors, name).__bases__, (LookupError,), name)

    def test_isinstance(self):
        for name in ALL:
            error = made(name, 3)
            of_chairs = name in OF_CHAIR_ERROR
            self.assertIs(isinstance(error, errors.ChairError), of_chairs, name)
            self.assertIs(isinstance(error, ValueError), of_chairs, name)
            self.assertIs(isinstance(error, LookupError), not of_chairs, name)
            self.assertIs(isinstance(error, (KeyError, IndexError, TypeError)), False, name)
            for other in ALL:
                self.assertIs(isinstance(error, getattr(errors, other)), name == other, (name, other))

    def test_fields_are_the_very_values(self):
        for name, field in ALL.items():
            if field:
                for value in GIVEN:
                    error = getattr(errors, name)(value)
                    self.assertEqual(list(vars(error)), [field], name)
                    self.assertIs(getattr(error, field), value, (name, value))

    def test_fields_stay_when_the_error_is_raised_or_copied(self):
        for name, field in ALL.items():
            value = [name]
            with self.assertRaises(getattr(errors, name)) as caught:
                raise made(name, value)
            if field:
                self.assertIs(getattr(caught.exception, field), value)
                self.assertIs(getattr(copy(caught.exception), field), value)

    def test_two_errors_are_apart(self):
        for name, field in ALL.items():
            if field:
                one, other = made(name, 1), made(name, 2)
                self.assertEqual((getattr(one, field), getattr(other, field)), (1, 2))

    def test_as_the_document_writes_them(self):
        texts = [repr(errors.Rejected(1)), repr(errors.TooLow(0)), repr(errors.BadText(2)), repr(errors.BadWay())]
        self.assertEqual(texts, ["Rejected(1)", "TooLow(0)", "BadText(2)", "BadWay()"])

    def test_as_many_fields_as_listed(self):
        for name, field in ALL.items():
            if field:
                with self.assertRaises(TypeError):
                    getattr(errors, name)()
                with self.assertRaises(TypeError):
                    getattr(errors, name)(1, 2)


if __name__ == "__main__":
    unittest.main()
