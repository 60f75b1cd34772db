"""The errors of c10: their fields, and which is a base of which."""

import unittest

from windowtable import errors

FIELDS = {
    "BadText": ("token", "reason"),
    "BadDefinition": ("number", "reason"),
    "BadFrame": (),
    "BadFit": (),
    "BadDeed": ("reason",),
    "BadPaper": ("number",),
    "BadJournal": ("place",),
    "BadArgument": ("reason",),
}
GIVEN = {"token": 7, "number": 3, "place": 12, "reason": "unexpected token"}


def class_of(name):
    return getattr(errors, name)


class ErrorsTest(unittest.TestCase):
    def test_base(self):
        self.assertTrue(issubclass(errors.TableError, ValueError))
        self.assertEqual(errors.TableError.__bases__, (ValueError,))

    def test_each_derives_from_the_base(self):
        for name in FIELDS:
            with self.subTest(name):
                self.assertTrue(issubclass(class_of(name), errors.TableError))
                self.assertNotEqual(class_of(name), errors.TableError)

    def test_none_of_the_others_is_a_base_of_another(self):
        for name in FIELDS:
            for other in FIELDS:
                if name != other:
                    with self.subTest(name, other=other):
                        self.assertFalse(issubclass(class_of(name), class_of(other)))

    def test_each_is_defined_in_its_file_under_its_name(self):
        for name in ("TableError", *FIELDS):
            with self.subTest(name):
                self.assertEqual(class_of(name).__module__, "windowtable.errors")
                self.assertEqual(class_of(name).__name__, name)

    def test_fields_have_what_they_were_made_of(self):
        for name, fields in FIELDS.items():
            with self.subTest(name):
                error = class_of(name)(*[GIVEN[field] for field in fields])
                self.assertEqual([getattr(error, field) for field in fields], [GIVEN[field] for field in fields])

    def test_fields_by_keyword(self):
        for name, fields in FIELDS.items():
            with self.subTest(name):
                error = class_of(name)(**{field: GIVEN[field] for field in fields})
                self.assertEqual([getattr(error, field) for field in fields], [GIVEN[field] for field in fields])

    def test_fields_of_two_objects_are_their_own(self):
        for name, fields in FIELDS.items():
            if fields:
                with self.subTest(name):
                    one = class_of(name)(*[GIVEN[field] for field in fields])
                    other = class_of(name)(*[0 for field in fields])
                    self.assertEqual([getattr(one, field) for field in fields], [GIVEN[field] for field in fields])
                    self.assertEqual([getattr(other, field) for field in fields], [0 for field in fields])

    def test_each_is_raised_and_caught_by_its_base(self):
        for name, fields in FIELDS.items():
            for base in (errors.TableError, ValueError):
                with self.subTest(name, base=base), self.assertRaises(base) as caught:
                    raise class_of(name)(*[GIVEN[field] for field in fields])
                self.assertIs(type(caught.exception), class_of(name))

    def test_the_base_is_raised_without_arguments(self):
        with self.assertRaises(ValueError) as caught:
            raise errors.TableError()
        self.assertIs(type(caught.exception), errors.TableError)


if __name__ == "__main__":
    unittest.main()
