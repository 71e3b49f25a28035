"""[3]: the errors, their fields and where they stem from."""

import unittest

from toldmeans import errors

FIELDS = {
    "BadText": ("column",),
    "BadLine": ("line", "column"),
    "BadNumber": ("what", "number"),
    "BadRow": ("row",),
    "BadInterval": ("low", "high"),
    "BadName": ("name",),
    "Unlike": ("what",),
    "NoName": ("name",),
    "TakenName": ("name",),
    "NotKept": ("promise", "witness"),
    "NothingToUndo": (),
    "NothingToRedo": (),
}


class ErrorsTest(unittest.TestCase):
    def test_all_stem_from_mean_error_alone(self):
        self.assertEqual(errors.MeanError.__bases__, (ValueError,))
        for name in FIELDS:
            self.assertEqual(getattr(errors, name).__bases__, (errors.MeanError,), name)

    def test_mean_error_is_a_value_error_that_can_be_raised(self):
        with self.assertRaises(ValueError):
            raise errors.MeanError()

    def test_fields_are_kept_in_their_order(self):
        for name, fields in FIELDS.items():
            values = [object() for _ in fields]
            error = getattr(errors, name)(*values)
            self.assertEqual(list(vars(error)), list(fields), name)
            for field, value in zip(fields, values):
                self.assertIs(getattr(error, field), value, name)

    def test_any_values_are_kept_just_as_they_are(self):
        loop = []
        loop.append(loop)
        for value in (None, True, 0, "", [1, [2]], loop, {"a": 1}, (1, [2]), 10 ** 9000, object()):
            for name, fields in FIELDS.items():
                error = getattr(errors, name)(*[value for _ in fields])
                for field in fields:
                    self.assertIs(getattr(error, field), value, name)

    def test_each_has_a_text_whatever_it_keeps(self):
        for name, fields in FIELDS.items():
            error = getattr(errors, name)(*[10 ** 9000 for _ in fields])
            self.assertIsInstance(str(error), str)

    def test_a_wrong_number_of_fields_is_no_error_of_the_package(self):
        for name, fields in FIELDS.items():
            if fields:
                with self.assertRaises(TypeError):
                    getattr(errors, name)()

    def test_an_error_equals_itself_alone(self):
        for name, fields in FIELDS.items():
            values = [1 for _ in fields]
            error = getattr(errors, name)(*values)
            self.assertTrue(error == error)
            self.assertFalse(error == getattr(errors, name)(*values))

    def test_one_is_not_caught_as_another(self):
        with self.assertRaises(errors.NoName):
            try:
                raise errors.NoName("a")
            except (errors.BadName, errors.TakenName):
                self.fail("caught by an error beside it")


if __name__ == "__main__":
    unittest.main()
