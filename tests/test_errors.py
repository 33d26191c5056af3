"""The error classes of the interface: what they derive from, and their fields."""

import inspect
import unittest

from tests.samples import OTHER_VALUES

from cardboxes import errors

FIELDS = {
    "TooManySwitches": ("bound",),
    "BadBox": ("error",),
    "NoCard": ("value",),
    "Present": ("value",),
    "TooManyEdits": (),
    "NothingToUndo": (),
    "BadEdits": (),
    "BadEdit": ("index",),
    "Rejected": ("index",),
    "Rough": ("switches",),
    "BadText": ("index",),
    "Absent": ("value",),
    "NoSwitch": ("value",),
    "NoVersion": ("value",),
}

LOOKUPS = ("Absent", "NoSwitch", "NoVersion")


def error_class(name):
    return getattr(errors, name)


class ErrorsTest(unittest.TestCase):
    def test_the_classes_are_these(self):
        found = [name for name, value in vars(errors).items() if inspect.isclass(value)]
        self.assertEqual(sorted(found), sorted(["BoxError", *FIELDS]))

    def test_bases(self):
        self.assertEqual(errors.BoxError.__bases__, (ValueError,))
        for name in FIELDS:
            wanted = LookupError if name in LOOKUPS else errors.BoxError
            self.assertEqual(error_class(name).__bases__, (wanted,), name)

    def test_lookups_are_not_value_errors(self):
        for name in FIELDS:
            self.assertEqual(issubclass(error_class(name), LookupError), name in LOOKUPS, name)
            self.assertEqual(issubclass(error_class(name), ValueError), name not in LOOKUPS, name)
            self.assertEqual(issubclass(error_class(name), errors.BoxError), name not in LOOKUPS, name)

    def test_none_derives_from_another(self):
        for first in FIELDS:
            for second in FIELDS:
                if first != second:
                    self.assertFalse(issubclass(error_class(first), error_class(second)), (first, second))

    def test_fields_have_the_very_values(self):
        for name, fields in FIELDS.items():
            for value in OTHER_VALUES + ((None, "tuple"), (1, "order")):
                raised = error_class(name)(*[value for field in fields])
                self.assertEqual(list(vars(raised)), list(fields), name)
                for field in fields:
                    self.assertIs(getattr(raised, field), value, name)

    def test_fields_by_name(self):
        for name, fields in FIELDS.items():
            raised = error_class(name)(**{field: 5 for field in fields})
            self.assertEqual(vars(raised), {field: 5 for field in fields}, name)

    def test_two_errors_have_their_own_fields(self):
        for name, fields in FIELDS.items():
            for field in fields:
                first, second = error_class(name)(1), error_class(name)(2)
                self.assertEqual((getattr(first, field), getattr(second, field)), (1, 2))

    def test_raised_and_caught(self):
        for name, fields in FIELDS.items():
            base = LookupError if name in LOOKUPS else errors.BoxError
            with self.assertRaises(base) as caught:
                raise error_class(name)(*[True for field in fields])
            self.assertIs(type(caught.exception), error_class(name))
            for field in fields:
                self.assertIs(getattr(caught.exception, field), True)

    def test_missing_fields(self):
        for name, fields in FIELDS.items():
            if fields:
                with self.assertRaises(TypeError):
                    error_class(name)()


if __name__ == "__main__":
    unittest.main()
