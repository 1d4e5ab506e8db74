import unittest

from hangbridge import errors

ERRORS = [
    (errors.RoomError, "place"),
    (errors.StateError, "state"),
    (errors.CommandError, "line"),
    (errors.PolicyError, "way"),
    (errors.MisreadError, "at"),
]


class Errors(unittest.TestCase):
    def test_base(self):
        self.assertEqual(errors.BridgeError.__bases__, (ValueError,))

    def test_bases_are_direct(self):
        for error, _ in ERRORS:
            self.assertEqual(error.__bases__, (errors.BridgeError,))

    def test_attribute_is_the_argument(self):
        for error, name in ERRORS:
            for argument in ("queue", 3, 0, (), (1, 2)):
                self.assertEqual(getattr(error(argument), name), argument)

    def test_raised_as_value_error(self):
        for error, name in ERRORS:
            with self.assertRaises(ValueError) as caught:
                raise error(7)
            self.assertEqual(getattr(caught.exception, name), 7)

    def test_message(self):
        for error, _ in ERRORS:
            self.assertIn("7", str(error(7)))


if __name__ == "__main__":
    unittest.main()
