import unittest

from evenrows import errors

UNDER = (
    "NoHands", "NoRow", "NoHand", "NoWorths", "NoOrder", "NoBound", "NotEven",
    "TooLong", "NoDegree", "NoPlaces", "NoText", "Done", "Nothing",
)


class ErrorsTest(unittest.TestCase):

    def test_turn_error_is_a_value_error(self):
        self.assertEqual(errors.TurnError.__bases__, (ValueError,))

    def test_each_is_straight_under_turn_error(self):
        for name in UNDER:
            with self.subTest(name):
                kind = getattr(errors, name)
                self.assertEqual(kind.__name__, name)
                self.assertEqual(kind.__module__, "evenrows.errors")
                self.assertEqual(kind.__bases__, (errors.TurnError,))

    def test_none_is_under_another(self):
        for name in UNDER:
            for other in UNDER:
                with self.subTest((name, other)):
                    under = issubclass(getattr(errors, name), getattr(errors, other))
                    self.assertEqual(under, name == other)

    def test_each_is_raised_and_caught(self):
        for name in UNDER:
            for caught in (getattr(errors, name), errors.TurnError, ValueError):
                with self.subTest((name, caught)):
                    with self.assertRaises(caught):
                        raise getattr(errors, name)("why")


if __name__ == "__main__":
    unittest.main()
