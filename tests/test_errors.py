"""[3]: the errors."""

import unittest

from roundsettle import errors
from roundsettle.errors import RoundError
from tests.helper import any_values

ATTRIBUTES = {
    "InvalidNumber": "value",
    "InvalidPairs": "value",
    "InvalidStays": "value",
    "InvalidRounds": "value",
    "InvalidRound": "value",
    "InvalidTarget": "value",
    "InvalidOutcomes": "value",
    "InvalidPlayer": "value",
    "InvalidOrder": "value",
    "InvalidBeats": "value",
    "InvalidDraw": "value",
    "InvalidQuestion": "value",
    "InvalidClaim": "value",
    "Undefined": "what",
    "NothingToUndo": "word",
}


class ErrorsTest(unittest.TestCase):
    def test_attributes(self):
        for name, attribute in ATTRIBUTES.items():
            made = getattr(errors, name)
            for value in any_values():
                with self.subTest(name=name):
                    self.assertIs(getattr(made(value), attribute), value)
                    self.assertIs(getattr(made(**{attribute: value}), attribute), value)

    def test_families(self):
        classes = [getattr(errors, name) for name in ATTRIBUTES]
        for made in classes:
            with self.subTest(made=made):
                self.assertTrue(issubclass(made, RoundError))
                self.assertTrue(issubclass(made, ValueError))
                above = [other for other in classes if other is not made and issubclass(made, other)]
                self.assertEqual(above, [])
        self.assertTrue(issubclass(RoundError, ValueError))

    def test_all_are_listed(self):
        found = [
            name for name, value in vars(errors).items()
            if isinstance(value, type) and issubclass(value, Exception)
        ]
        self.assertEqual(sorted(found), sorted(["RoundError", *ATTRIBUTES]))

    def test_caught(self):
        for name, attribute in ATTRIBUTES.items():
            value = [name]
            with self.subTest(name=name):
                with self.assertRaises(RoundError) as caught:
                    raise getattr(errors, name)(value)
                self.assertIs(getattr(caught.exception, attribute), value)
                self.assertIs(type(caught.exception), getattr(errors, name))

    def test_a_value_is_kept_itself(self):
        value = [1, [2]]
        error = errors.InvalidPairs(value)
        value.append(3)
        self.assertEqual(error.value, [1, [2], 3])

    def test_can_be_shown(self):
        for name in ATTRIBUTES:
            made = getattr(errors, name)
            for value in any_values():
                self.assertIsInstance(str(made(value)), str)

    def test_not_iterable(self):
        with self.assertRaises(TypeError):
            iter(errors.InvalidNumber(3))


if __name__ == "__main__":
    unittest.main()
