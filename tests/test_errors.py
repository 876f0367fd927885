"""[3]: the refusals."""

import copy
import pickle
import unittest

from steploft import errors

PLAIN = ("TooMany", "NoRoom", "NoRow", "NoLoft", "NoCells", "NotStill")
FIELDS = (("NoText", "row", 3), ("NoName", "name", "abc"))
ALL = PLAIN + tuple(name for name, field, worth in FIELDS)


class Classes(unittest.TestCase):
    def test_loft_error_stands_straight_under_value_error(self):
        self.assertEqual(errors.LoftError.__bases__, (ValueError,))

    def test_each_stands_straight_under_loft_error(self):
        for name in ALL:
            self.assertEqual(getattr(errors, name).__bases__, (errors.LoftError,), name)

    def test_none_stands_under_another(self):
        for name in ALL:
            for other in ALL:
                below = issubclass(getattr(errors, name), getattr(errors, other))
                self.assertEqual(below, name == other, (name, other))

    def test_each_is_caught_as_loft_error_and_value_error(self):
        for name in ALL:
            for caught in (errors.LoftError, ValueError):
                with self.assertRaises(caught):
                    raise getattr(errors, name)("why")

    def test_plain_ones_are_made_with_one_text(self):
        for name in PLAIN + ("LoftError",):
            self.assertEqual(str(getattr(errors, name)("why")), "why")


class Fields(unittest.TestCase):
    def test_by_place(self):
        for name, field, worth in FIELDS:
            self.assertEqual(getattr(getattr(errors, name)(worth), field), worth)

    def test_by_name(self):
        for name, field, worth in FIELDS:
            self.assertEqual(getattr(getattr(errors, name)(**{field: worth}), field), worth)

    def test_a_field_is_needed(self):
        for name, field, worth in FIELDS:
            with self.assertRaises(TypeError):
                getattr(errors, name)()

    def test_fields_are_each_objects_own(self):
        one, other = errors.NoText(1), errors.NoText(row=2)
        self.assertEqual((one.row, other.row), (1, 2))

    def test_fields_stay_in_a_copy(self):
        for name, field, worth in FIELDS:
            error = getattr(errors, name)(worth)
            for twin in (copy.copy(error), pickle.loads(pickle.dumps(error))):
                self.assertEqual(getattr(twin, field), worth)


if __name__ == "__main__":
    unittest.main()
