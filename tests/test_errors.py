import unittest

from coastersafe import errors
from coastersafe.errors import CoasterError, InvalidText, TooLarge, UnknownName

NAMES = [
    "BadNumber", "InvalidLayout", "InvalidTrain", "InvalidRide", "InvalidText",
    "NotFitting", "UnknownName", "TooLarge",
]


class ErrorsTest(unittest.TestCase):
    def test_base_classes(self):
        self.assertEqual(CoasterError.__bases__, (ValueError,))
        for name in NAMES:
            self.assertEqual(getattr(errors, name).__bases__, (CoasterError,), name)

    def test_each_is_caught_as_coaster_error_only_by_its_own_class(self):
        for name in NAMES:
            for other in NAMES:
                is_one = issubclass(getattr(errors, name), getattr(errors, other))
                self.assertEqual(is_one, name == other, (name, other))

    def test_classes_stand_in_their_file(self):
        for name in NAMES + ["CoasterError"]:
            self.assertEqual(getattr(errors, name).__module__, "coastersafe.errors")

    def test_fields(self):
        self.assertEqual(InvalidText(3).line, 3)
        self.assertEqual(UnknownName("abc").name, "abc")
        self.assertEqual(TooLarge(20000).limit, 20000)

    def test_fields_of_a_raised_error(self):
        with self.assertRaises(CoasterError) as caught:
            raise InvalidText(12)
        self.assertEqual(caught.exception.line, 12)
        with self.assertRaises(ValueError) as caught:
            raise UnknownName("x")
        self.assertEqual(caught.exception.name, "x")
        with self.assertRaises(ValueError) as caught:
            raise TooLarge(1)
        self.assertEqual(caught.exception.limit, 1)


if __name__ == "__main__":
    unittest.main()
