"""Point 8: the errors, how they are derived, and their attributes."""

import unittest

from allbide.errors import BadValue, BideError, NotPossible, TextError, TooLarge

BELOW = (BadValue, TooLarge, NotPossible, TextError)


class ErrorsTest(unittest.TestCase):
    def test_all_are_derived_from_the_base_and_this_from_value_error(self):
        self.assertEqual(BideError.__bases__, (ValueError,))
        for kind in BELOW:
            self.assertTrue(issubclass(kind, BideError), kind)

    def test_none_is_derived_from_another_one(self):
        for kind in BELOW:
            for other in BELOW:
                self.assertEqual(issubclass(kind, other), kind is other, (kind, other))

    def test_attributes(self):
        self.assertEqual(BadValue("net").name, "net")
        self.assertEqual(TooLarge("rules").what, "rules")
        self.assertEqual(NotPossible("apart").why, "apart")
        error = TextError(16, "a side is from -100 to 100")
        self.assertEqual((error.column, error.words), (16, "a side is from -100 to 100"))

    def test_each_object_has_only_the_attributes_of_its_own_creation(self):
        first, second = BadValue("net"), BadValue("times")
        self.assertEqual((vars(first), vars(second)), ({"name": "net"}, {"name": "times"}))
        self.assertEqual(vars(TooLarge("rules")), {"what": "rules"})
        self.assertEqual(vars(NotPossible("net")), {"why": "net"})
        self.assertEqual(vars(TextError(1, "no")), {"column": 1, "words": "no"})

    def test_they_are_caught_as_the_base_and_as_value_error(self):
        for error in (BadValue("net"), TooLarge("rules"), NotPossible("net"), TextError(1, "no"), BideError("other")):
            for kind in (BideError, ValueError):
                with self.assertRaises(kind) as caught:
                    raise error
                self.assertIs(caught.exception, error)


if __name__ == "__main__":
    unittest.main()
