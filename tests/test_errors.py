"""Point [5]: errors."""

import unittest

from depthquestions import errors

WITH_VALUE = [
    errors.InvalidStore, errors.InvalidQuestion, errors.InvalidName, errors.InvalidItem, errors.InvalidFact,
    errors.InvalidNumber, errors.InvalidList, errors.InvalidText, errors.InvalidPaper, errors.InvalidFlag,
    errors.Unlike, errors.TooMany]
WITHOUT = [errors.NothingToUndo, errors.NothingToRedo]


class Errors(unittest.TestCase):
    def test_value_is_the_very_object(self):
        for error in WITH_VALUE:
            for value in [5, "text", ["a", []], (1, "b"), None, True, {"a": 1}, errors.InvalidItem(3)]:
                with self.subTest(error=error.__name__, value=value):
                    self.assertIs(error(value).value, value)
                    self.assertIs(error(value=value).value, value)

    def test_value_may_be_left_out(self):
        for error in WITH_VALUE:
            self.assertIsNone(error().value)

    def test_value_stays_when_raised(self):
        for error in WITH_VALUE:
            told = ["x"]
            try:
                raise error(told)
            except errors.StoreError as caught:
                self.assertIs(caught.value, told)

    def test_order_of_classes(self):
        self.assertEqual(errors.StoreError.__bases__, (ValueError,))
        for error in WITH_VALUE + WITHOUT:
            self.assertEqual(error.__bases__, (errors.StoreError,))
        self.assertEqual(len(set(WITH_VALUE + WITHOUT)), 14)

    def test_none_is_caught_as_another(self):
        for one in WITH_VALUE + WITHOUT:
            for other in WITH_VALUE + WITHOUT:
                self.assertEqual(issubclass(one, other), one is other)

    def test_without_a_field(self):
        for error in [errors.StoreError, *WITHOUT]:
            self.assertFalse(hasattr(error(), "value"))
            with self.assertRaises(errors.StoreError):
                raise error()

    def test_equal_to_nothing_but_themselves(self):
        for error in WITH_VALUE + WITHOUT + [errors.StoreError]:
            one, other = error(), error()
            self.assertTrue(one == one)
            self.assertFalse(one == other)
            self.assertTrue(one != other)
        self.assertFalse(errors.InvalidItem(1) == errors.InvalidItem(1))
        self.assertFalse(errors.InvalidItem(1) == 1)


if __name__ == "__main__":
    unittest.main()
