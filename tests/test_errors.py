import unittest

from rowfolds import errors

ROW_ERRORS = {
    "NoRows": (),
    "TooLong": ("limit",),
    "NotFoldable": (),
    "BadRow": ("error",),
    "HasFour": ("places",),
    "TooManyEdits": (),
    "LastOne": (),
    "NothingToUndo": (),
    "BadOrder": ("first", "last"),
    "BadEdits": (),
    "BadEdit": ("index",),
    "Rejected": ("index",),
    "Busy": (),
    "BadText": ("error",),
}
LOOKUP_ERRORS = {
    name: ("value",)
    for name in ("NoPlaces", "NoBlock", "NoPath", "NoFold", "NoIndex", "NoPlace", "NoNumber", "NoVersion")
}
ALL_ERRORS = {**ROW_ERRORS, **LOOKUP_ERRORS}


class ErrorsTest(unittest.TestCase):
    def test_row_error_is_a_value_error_only(self):
        self.assertTrue(issubclass(errors.RowError, ValueError))
        self.assertFalse(issubclass(errors.RowError, LookupError))

    def test_row_errors_derive_from_row_error(self):
        for name in ROW_ERRORS:
            with self.subTest(name):
                self.assertTrue(issubclass(getattr(errors, name), errors.RowError))
                self.assertFalse(issubclass(getattr(errors, name), LookupError))

    def test_lookup_errors_derive_from_lookup_error(self):
        for name in LOOKUP_ERRORS:
            with self.subTest(name):
                self.assertTrue(issubclass(getattr(errors, name), LookupError))
                self.assertFalse(issubclass(getattr(errors, name), ValueError))
                self.assertFalse(issubclass(getattr(errors, name), errors.RowError))
                self.assertFalse(issubclass(getattr(errors, name), (KeyError, IndexError)))

    def test_no_error_derives_from_another(self):
        for name in ALL_ERRORS:
            for other in ALL_ERRORS:
                if name != other:
                    with self.subTest(name, other=other):
                        self.assertFalse(issubclass(getattr(errors, name), getattr(errors, other)))

    def test_fields_are_the_objects_that_were_passed(self):
        for name, fields in ALL_ERRORS.items():
            for make in (lambda: [], lambda: ([0], 1), lambda: {"a": [1]}, lambda: None, lambda: True, object):
                with self.subTest(name):
                    passed = [make() for field in fields]
                    error = getattr(errors, name)(*passed)
                    for field, value in zip(fields, passed):
                        self.assertIs(getattr(error, field), value)
                    self.assertEqual(sorted(vars(error)), sorted(fields))

    def test_fields_keep_their_order(self):
        error = errors.BadOrder(5, 2)
        self.assertEqual((error.first, error.last), (5, 2))

    def test_fields_must_all_be_passed(self):
        for name, fields in ALL_ERRORS.items():
            if fields:
                with self.subTest(name):
                    self.assertRaises(TypeError, getattr(errors, name))
                    self.assertRaises(TypeError, getattr(errors, name), *fields, "more")

    def test_raised_errors_are_caught_by_their_names(self):
        for name, fields in ALL_ERRORS.items():
            with self.subTest(name):
                with self.assertRaises(getattr(errors, name)):
                    raise getattr(errors, name)(*fields)


if __name__ == "__main__":
    unittest.main()
