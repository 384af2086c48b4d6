"""The errors of the interface: base classes, fields, and how they are made."""

import unittest

from bestsets import errors

BASES = {
    "BestsetsError": "ValueError",
    "InvalidMatroid": "BestsetsError",
    "InvalidLine": "BestsetsError",
    "DifferentSizes": "BestsetsError",
    "BenchError": "BestsetsError",
    "UnknownElement": "BenchError",
    "AlreadyIn": "BenchError",
    "AlreadyOut": "BenchError",
    "NoSuchLine": "BenchError",
    "NoSuchBound": "BenchError",
    "TooManyChanges": "BenchError",
}

FIELDS = {
    "InvalidMatroid": "line",
    "InvalidLine": "number",
    "UnknownElement": "element",
    "AlreadyIn": "element",
    "AlreadyOut": "element",
    "NoSuchLine": "line",
    "NoSuchBound": "number",
}


class ErrorsTest(unittest.TestCase):
    def test_each_class_has_the_base_class_of_the_interface(self):
        for name, base in BASES.items():
            with self.subTest(name=name):
                found = getattr(errors, name)
                self.assertEqual([one.__name__ for one in found.__bases__], [base])
                self.assertEqual(found.__module__, "bestsets.errors")
                self.assertTrue(issubclass(found, ValueError))

    def test_there_are_no_other_errors(self):
        found = [name for name, value in vars(errors).items() if isinstance(value, type)]
        self.assertEqual(sorted(found), sorted(BASES))

    def test_each_field_holds_what_the_error_was_made_with(self):
        for name, field in FIELDS.items():
            for value in (0, 7, -1):
                with self.subTest(name=name, value=value):
                    found = getattr(errors, name)
                    self.assertEqual(getattr(found(value), field), value)
                    self.assertEqual(getattr(found(**{field: value}), field), value)

    def test_errors_with_a_field_are_not_made_without_it(self):
        for name in FIELDS:
            with self.subTest(name=name), self.assertRaises(TypeError):
                getattr(errors, name)()

    def test_errors_without_a_field_are_made_of_nothing(self):
        for name in sorted(set(BASES) - set(FIELDS)):
            with self.subTest(name=name):
                self.assertEqual(vars(getattr(errors, name)()), {})

    def test_errors_are_caught_by_their_base_classes(self):
        with self.assertRaises(errors.BestsetsError) as caught:
            raise errors.InvalidMatroid(4)
        self.assertEqual(caught.exception.line, 4)
        with self.assertRaises(errors.BenchError) as caught:
            raise errors.NoSuchBound(2)
        self.assertEqual(caught.exception.number, 2)


if __name__ == "__main__":
    unittest.main()
