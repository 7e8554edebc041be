"""c7: the errors and their fields."""

import unittest

from heldwater import errors

FIELDS = {
    "BadBasin": ("line", "reason"),
    "BadPlan": ("reason",),
    "BadArgument": ("reason",),
    "BadChange": ("reason",),
    "BadJournal": ("place",),
    "Ended": (),
}


class Errors(unittest.TestCase):
    def test_each_is_a_water_error_and_a_value_error(self):
        self.assertTrue(issubclass(errors.WaterError, ValueError))
        self.assertEqual(errors.WaterError.__bases__, (ValueError,))
        for name in FIELDS:
            with self.subTest(name):
                self.assertTrue(issubclass(getattr(errors, name), errors.WaterError))
                self.assertTrue(issubclass(getattr(errors, name), ValueError))

    def test_none_of_the_others_is_a_base_of_another(self):
        for one in FIELDS:
            for other in FIELDS:
                if one != other:
                    with self.subTest((one, other)):
                        self.assertFalse(issubclass(getattr(errors, one), getattr(errors, other)))

    def test_fields_by_position(self):
        for name, fields in FIELDS.items():
            values = (3, "why")[-len(fields):] if fields else ()
            error = getattr(errors, name)(*values)
            with self.subTest(name):
                self.assertEqual(vars(error), dict(zip(fields, values)))

    def test_fields_by_name(self):
        for name, fields in FIELDS.items():
            told = {field: (field, 7) for field in fields}
            error = getattr(errors, name)(**told)
            with self.subTest(name):
                self.assertEqual(vars(error), told)

    def test_each_can_be_raised_and_caught_by_its_bases(self):
        for name, fields in FIELDS.items():
            for base in (getattr(errors, name), errors.WaterError, ValueError):
                with self.subTest((name, base)), self.assertRaises(base):
                    raise getattr(errors, name)(*fields)

    def test_message_tells_the_fields(self):
        self.assertIn("4", str(errors.BadBasin(4, "not a line")))
        self.assertIn("not a line", str(errors.BadBasin(4, "not a line")))
        for name in ("BadPlan", "BadArgument", "BadChange", "BadJournal"):
            with self.subTest(name):
                self.assertIn("some word", str(getattr(errors, name)("some word")))


if __name__ == "__main__":
    unittest.main()
