"""The errors: their family, their values."""

import unittest

from heavierhall import errors

VALUES = {
    "BadWorld": {"part": 1, "number": 7},
    "BadMeeting": {"number": 3},
    "BadWish": {"number": 0},
    "BadPaper": {"number": 12},
    "NoThing": {"number": 4},
    "BadDeed": {"number": 5},
    "BadCount": {},
    "TooMany": {},
    "NoPair": {},
    "BadText": {"row": 2},
}


class Errors(unittest.TestCase):
    def test_hall_error_is_a_value_error(self):
        self.assertEqual(errors.HallError.__bases__, (ValueError,))
        with self.assertRaises(ValueError):
            raise errors.HallError("any refusal")

    def test_each_is_a_hall_error(self):
        for name, values in VALUES.items():
            with self.subTest(name):
                refused = getattr(errors, name)(**values)
                self.assertIsInstance(refused, errors.HallError)
                self.assertIsInstance(refused, ValueError)

    def test_none_is_under_another_one(self):
        for name in VALUES:
            for other in VALUES:
                if name != other:
                    with self.subTest(name=name, other=other):
                        self.assertFalse(issubclass(getattr(errors, name), getattr(errors, other)))

    def test_values_by_their_names_are_attributes(self):
        for name, values in VALUES.items():
            with self.subTest(name):
                refused = getattr(errors, name)(**values)
                self.assertEqual(vars(refused), values)

    def test_values_are_asked_for(self):
        for name, values in VALUES.items():
            if values:
                with self.subTest(name), self.assertRaises(TypeError):
                    getattr(errors, name)()
            with self.subTest(name), self.assertRaises(TypeError):
                getattr(errors, name)(**values, other=1)

    def test_each_is_raised_and_caught_by_its_name(self):
        for name, values in VALUES.items():
            with self.subTest(name):
                with self.assertRaises(getattr(errors, name)) as caught:
                    raise getattr(errors, name)(**values)
                for word, value in values.items():
                    self.assertEqual(getattr(caught.exception, word), value)


if __name__ == "__main__":
    unittest.main()
