"""The interface, placesay/errors.py."""

import unittest

from placesay.errors import NoLetter, NoName, OtherMarks, SayError

REFUSALS = (NoName, NoLetter, OtherMarks)


class Errors(unittest.TestCase):
    def test_any_refusal_is_a_value_error(self):
        self.assertEqual(SayError.__bases__, (ValueError,))

    def test_each_refusal_is_under_say_error(self):
        for refusal in REFUSALS:
            self.assertEqual(refusal.__bases__, (SayError,))

    def test_each_refusal_is_taken_by_its_own_name_and_by_those_above_alone(self):
        for refusal in REFUSALS:
            for name in (refusal, SayError, ValueError):
                with self.assertRaises(name):
                    raise refusal("told")
            for other in REFUSALS:
                self.assertEqual(issubclass(refusal, other), refusal is other)

    def test_the_names_are_those_of_the_interface(self):
        names = [refusal.__name__ for refusal in (SayError, *REFUSALS)]
        self.assertEqual(names, ["SayError", "NoName", "NoLetter", "OtherMarks"])


if __name__ == "__main__":
    unittest.main()
